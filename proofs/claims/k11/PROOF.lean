import PyProof.Rows.All
import Wide.All
import OpenK.AllK
import Wide.FinOn
import HandS.ForMost
import HandS.IsInst
import HandS.TupAny
import HandS.RevRange
import HandS.Walk
import HandS.Zip
import HandS.SortInts
import KE.GoesNew
import KE.DataEq
import HandS.Style
import PyProof.Rows.IntBool
import HandS.Deep
import KE.DataMinKey
import HandS.SortKw
import HandS.TupMul
import HandS.HotCalls
import HandS.Iter
import HandS.Comp
import HandS.ExcIs
import PyProof.ZipIter
import HandS.Lambda
import HandS.EndTab
import HandS.WordsExc
import HandS.OwnEq
import HandS.Conv
import HandS.SetFor
import HandS.Codes
import HandS.NoneIn
import HandS.Text
import PySem.Challenge.RW_pushshelf_k11_whole_benches_deed_by_deed
set_option Elab.async false
set_option linter.all false
set_option maxRecDepth 100000
set_option maxHeartbeats 8000000
namespace PS
open PySem PySem.Spec PyProof.Rows L2

/-! ### lists and tuples at once -/
def SqK (b : Bool) (K : PySem.W.Frag) (H : Hp) (a : Addr) (xs : List V) : Prop := match b with
  | true => SqL K H a xs
  | false => SqT K H a xs
def IsK (b : Bool) (h : Heap) (a : Addr) (its : Array Value) : Prop := match b with
  | true => h.IsList a its
  | false => h.IsTuple a its
def ItK (b : Bool) (h : Heap) (it a : Addr) (i : Nat) : Prop := match b with
  | true => h.IsListIter it a i
  | false => h.IsTupleIter it a i
def itO (b : Bool) (a : Addr) : Obj := match b with
  | true => { cls := .type "list_iterator", data := .fields #[.ref a, .int 0 0] }
  | false => { cls := .type "tuple_iterator", data := .fields #[.ref a, .int 0 0] }
theorem beginsK (b : Bool) (a : Addr) (its : Array Value) : Begins (.ref a) (itO b a) (fun h => IsK b h a its) := by
  cases b
  · exact begins_tuple a its
  · exact begins_list a its
theorem drawsK {prog : Program} {w : World} {A : Around} (b : Bool) (hh : A.handled = none) (it a : Addr) (hne : a ≠ it) (its : Array Value) :
    Draws prog w A it [it, a] its.size (fun i v => its[i]? = some v) (fun i h => ItK b h it a i ∧ IsK b h a its) := by
  cases b
  · exact Draws.tuple hh it a hne its
  · exact Draws.list hh it a hne its
theorem seqK {X : Cx} {pins : List (Addr × Obj)} {σ : L2.St} {H : Hp} {s : Shared} {b : Bool} {a : Addr} {xs : List V} (I : Inv X pins σ H s) (h : SqK b X.K H a xs) :
    ∃ its : List Value, Vals xs its ∧ IsK b s.heap a its.toArray ∧ a < s.heap.objs.size := by
  cases b
  · obtain ⟨its, r, p, _⟩ := I.tuple h
    exact ⟨its, r, p, p.lt⟩
  · obtain ⟨its, r, p, _⟩ := I.list h
    exact ⟨its, r, p.isList, p.lt⟩
theorem seqK_inj {X : Cx} {pins : List (Addr × Obj)} {σ : L2.St} {H : Hp} {s : Shared} {b : Bool} {a : Addr} {xs ys : List V} (I : Inv X pins σ H s) (h : SqK b X.K H a xs) (h' : SqK b X.K H a ys) : xs = ys := by
  cases b
  · exact I.tuple_inj h h'
  · exact I.list_inj h h'
theorem itK_obj {b : Bool} {h : Heap} {it a : Addr} {i : Nat} (x : ItK b h it a i) : ∃ o, h.get? it = some o ∧ ∀ v, o.data ≠ .cell v := by
  cases b
  · obtain ⟨o, e, _, d⟩ := x
    exact ⟨o, e, fun v q => by rw [d] at q; cases q⟩
  · obtain ⟨o, e, _, d⟩ := x
    exact ⟨o, e, fun v q => by rw [d] at q; cases q⟩
theorem itK_keep {b : Bool} {h h' : Heap} {it a : Addr} {i : Nat} (x : ItK b h it a i) (k : ∀ o, h.get? it = some o → h'.get? it = some o) : ItK b h' it a i := by
  cases b
  · obtain ⟨o, e, r⟩ := x
    exact ⟨o, k o e, r⟩
  · obtain ⟨o, e, r⟩ := x
    exact ⟨o, k o e, r⟩
theorem itK_new {b : Bool} {h : Heap} {it a : Addr} (e : h.get? it = some (itO b a)) : ItK b h it a 0 := by
  cases b
  · exact ⟨_, e, rfl, rfl⟩
  · exact ⟨_, e, rfl, rfl⟩

/-! ### one turn, by the library's walk of tuples -/
theorem item_of {X : Cx} {elts : List Expr} {kk : Nat} {tp : Pos} {it : Addr} {fp0 fp wr : List Addr} {n i : Nat} {Pt : Nat → Array Value → Prop} {S0 : Nat → Heap → Prop} {Mid : Nat → Addr → Heap → Prop}
    {pins : List (Addr × Obj)} {σ : L2.St} {H : Hp} {s : Shared} {E : Value → Shared → Prop} (G : WalksT X.prog X.w X.A it fp0 wr n Pt S0 Mid) (hw : ∀ b ∈ wr, b ∈ fp) (I : Inv X pins σ H s) (hf : ∀ b ∈ fp, FpOk X pins H b) (hi : i < n) (st : S0 i s.heap)
    (lt : ∀ b ∈ fp, b < s.heap.objs.size) {J : It} {tn : Nat → Heap → Prop} {xs : List V} (hP : ∀ vals, Pt i vals → Vals xs vals.toList) (hx : xs.length ≤ sizeLine)
    (hJ : ∀ T, H T = none → J.yld i H (.ref T) (upd H T (.tup xs))) (ht : ∀ h', S0 (i + 1) h' → tn (i + 1) h') :
    wpAny (model X.prog X.w) X.A (pyNext (.ref it)) (fun r s1 => ∃ u, r = some u ∧
      wpAny (model X.prog X.w) X.A (letOwnedTupleGo (.Tuple elts kk tp) (.ref it) u) (fun _ s2 => ∃ x H', Inv X pins σ H' s2 ∧ RelV x u ∧ J.yld i H x H' ∧ tn (i + 1) s2.heap ∧ ∀ b ∈ fp, H' b = none) E s1) E s := by
  refine (GoesN.ofWalksT (elts := elts) (k := kk) (pos := tp) G).goes i s _ E hi st fun v h' tk hY st' hk _ => ?_
  obtain ⟨T, vals, rfl, hT, hv, tup⟩ := hY
  have fT : H T = none := I.hok.fresh hT
  have hxs := hP vals hv
  have new : ObjOk X.prog X.w (upd H T (.tup xs)) h' T (.tup xs) := ⟨hx, vals.toList, hxs, by
    rw [show vals.toList.toArray = vals from by simp]
    exact tup⟩
  have I1 := I.turnedNew (t' := tk) (ch := fp) (fun b o hb q => hk b o (fun z => hb (hw b z)) q) hf hT new
  refine ⟨.ref T, upd H T (.tup xs), I1, rfl, hJ T fT, ht h' st', fun b hb => ?_⟩
  rw [upd_ne (Nat.ne_of_lt (Nat.lt_of_lt_of_le (lt b hb) hT))]
  exact (hf b hb).1
theorem done_of {X : Cx} {it : Addr} {fp0 fp wr : List Addr} {n : Nat} {Pt : Nat → Array Value → Prop} {S0 : Nat → Heap → Prop} {Mid : Nat → Addr → Heap → Prop}
    {pins : List (Addr × Obj)} {σ : L2.St} {H : Hp} {s : Shared} {E : Value → Shared → Prop} (G : WalksT X.prog X.w X.A it fp0 wr n Pt S0 Mid) (hw : ∀ b ∈ wr, b ∈ fp) (I : Inv X pins σ H s) (hf : ∀ b ∈ fp, FpOk X pins H b) (st : S0 n s.heap) :
    wpAny (model X.prog X.w) X.A (pyNext (.ref it)) (fun r s1 => r = none ∧ Inv X pins σ H s1) E s :=
  (GoesN.ofWalksT (elts := []) (k := 0) (pos := ⟨0, 0, 0, 0⟩) G).stops s (fun s1 => Inv X pins σ H s1) E st fun h' tk hk _ => I.turnedL (ch := fp) (fun b o hb q => hk b o (fun z => hb (hw b z)) q) hf

/-! ### zip of two, of three; enumerate: each of lists or tuples -/
def It2 (b1 b2 : Bool) (K : PySem.W.Frag) (a1 a2 : Addr) : It where
  go := fun i H => ∃ (xs ys : List V) (x y : V), SqK b1 K H a1 xs ∧ SqK b2 K H a2 ys ∧ xs[i]? = some x ∧ ys[i]? = some y
  yld := fun i H v H' => ∃ T x y, v = .ref T ∧ H T = none ∧ H' = upd H T (.tup [x, y]) ∧ (∀ xs, SqK b1 K H a1 xs → xs[i]? = some x) ∧ ∀ ys, SqK b2 K H a2 ys → ys[i]? = some y
  stop := fun i H => ∃ xs ys : List V, SqK b1 K H a1 xs ∧ SqK b2 K H a2 ys ∧ i = min xs.length ys.length
theorem mem5 {c z t o i j : Addr} (h : c ∈ [z, t, o, i, j]) : c = z ∨ c = t ∨ c = o ∨ c = i ∨ c = j := by simpa using h
theorem mem6 {c z t o i j k : Addr} (h : c ∈ [z, t, o, i, j, k]) : c = z ∨ c = t ∨ c = o ∨ c = i ∨ c = j ∨ c = k := by simpa using h
abbrev T2 (b1 b2 : Bool) (a1 a2 N : Addr) (i : Nat) (h : Heap) : Prop := IsZip h (N + 4) (N + 2) (N + 3) .none ∧ IsTupOf2 h (N + 2) (.ref N) (.ref (N + 1)) ∧ (∃ u v, IsTupOf2 h (N + 3) u v) ∧ ItK b1 h N a1 i ∧ ItK b2 h (N + 1) a2 i
theorem turn_2 {P : Program} {w : World} {K : PySem.W.Frag} {elts : List Expr} {kk : Nat} {tp : Pos} {b1 b2 : Bool} {a1 a2 N : Addr} (l1 : a1 < N) (l2 : a2 < N) :
    Turn P w K (.Tuple elts kk tp) (It2 b1 b2 K a1 a2) [N + 4, N + 2, N + 3, N, N + 1] (N + 4) (T2 b1 b2 a1 a2 N) where
  mem := by simp
  obj := fun i h st c hc => by
    obtain ⟨z1, z2, ⟨u, v, z3⟩, z4, z5⟩ := st
    rcases mem5 hc with q | q | q | q | q <;> rw [q]
    · exact ⟨_, z1, fun v q => nomatch q⟩
    · exact ⟨_, z2, fun v q => nomatch q⟩
    · exact ⟨_, z3, fun v q => nomatch q⟩
    · exact itK_obj z4
    · exact itK_obj z5
  keep := fun i h h' st k => by
    obtain ⟨z1, z2, ⟨u, v, z3⟩, z4, z5⟩ := st
    exact ⟨k _ (by simp) _ z1, k _ (by simp) _ z2, ⟨u, v, k _ (by simp) _ z3⟩, itK_keep z4 fun o e => k _ (by simp) o e, itK_keep z5 fun o e => k _ (by simp) o e⟩
  item := by
    intro X hP hw hK hc i pins s σ H E I hf st hg
    subst hP hw hK
    obtain ⟨xs, ys, x, y, q1, q2, e1, e2⟩ := hg
    obtain ⟨us, r1, p1, m1⟩ := seqK I q1
    obtain ⟨ws, r2, p2, m2⟩ := seqK I q2
    obtain ⟨u, g1, v1⟩ := r1.get e1
    obtain ⟨v, g2, v2⟩ := r2.get e2
    obtain ⟨z1, z2, z3, z4, z5⟩ := st
    have D1 := drawsK (prog := X.prog) (w := X.w) (A := X.A.in1) b1 (I.ok.hd hc) N a1 (Nat.ne_of_lt l1) us.toArray
    have D2 := drawsK (prog := X.prog) (w := X.w) (A := X.A.in1) b2 (I.ok.hd hc) (N + 1) a2 (Nat.ne_of_lt (Nat.lt_succ_of_lt l2)) ws.toArray
    have S := zip_sep2 (N := N) (fp1 := [a1]) (fp2 := [a2]) (by simpa using l1) (by simpa using l2)
    have n1 : i < us.length := (List.getElem?_eq_some_iff.mp g1).1
    have n2 : i < ws.length := (List.getElem?_eq_some_iff.mp g2).1
    have lt : ∀ c ∈ [N + 4, N + 2, N + 3, N, N + 1], c < s.heap.objs.size := fun c hc' => by
      obtain ⟨u', v', z3⟩ := z3
      rcases mem5 hc' with q | q | q | q | q <;> rw [q]
      · exact Heap.lt_size z1
      · exact Heap.lt_size z2
      · exact Heap.lt_size z3
      · obtain ⟨o, e, _⟩ := itK_obj z4; exact Heap.lt_size e
      · obtain ⟨o, e, _⟩ := itK_obj z5; exact Heap.lt_size e
    refine item_of (xs := [x, y]) (WalksT.zipD2 S D1 D2) (by simp) I hf (by simp; omega) ⟨z1, z2, z3, ⟨z4, p1⟩, ⟨z5, p2⟩⟩ lt (fun vals hv => ?_) (by show 2 ≤ sizeLine; decide) (fun T fT => ?_) (fun h' t => ?_)
    · obtain ⟨x', y', h1, h2, rfl⟩ := hv
      simp only [List.getElem?_toArray] at h1 h2
      rw [g1] at h1; rw [g2] at h2
      cases h1; cases h2
      exact .cons v1 (.cons v2 .nil)
    · exact ⟨T, x, y, rfl, fT, rfl, fun l hl => by rw [seqK_inj I hl q1]; exact e1, fun l hl => by rw [seqK_inj I hl q2]; exact e2⟩
    · exact ⟨t.1, t.2.1, t.2.2.1, t.2.2.2.1.1, t.2.2.2.2.1⟩
  done := by
    intro X hP hw hK hc i pins s σ H E I hf st hg
    subst hP hw hK
    obtain ⟨xs, ys, q1, q2, e⟩ := hg
    obtain ⟨us, r1, p1, m1⟩ := seqK I q1
    obtain ⟨ws, r2, p2, m2⟩ := seqK I q2
    obtain ⟨z1, z2, z3, z4, z5⟩ := st
    have D1 := drawsK (prog := X.prog) (w := X.w) (A := X.A.in1) b1 (I.ok.hd hc) N a1 (Nat.ne_of_lt l1) us.toArray
    have D2 := drawsK (prog := X.prog) (w := X.w) (A := X.A.in1) b2 (I.ok.hd hc) (N + 1) a2 (Nat.ne_of_lt (Nat.lt_succ_of_lt l2)) ws.toArray
    have S := zip_sep2 (N := N) (fp1 := [a1]) (fp2 := [a2]) (by simpa using l1) (by simpa using l2)
    have en : i = min us.toArray.size ws.toArray.size := by
      have := r1.length
      have := r2.length
      simp only [List.size_toArray]
      omega
    subst en
    exact done_of (WalksT.zipD2 S D1 D2) (by simp) I hf ⟨z1, z2, z3, ⟨z4, p1⟩, ⟨z5, p2⟩⟩
  self := fun A i s Q E st h => wpAny_pyIter_zip st.1 h

/-- what zip(e, e2) asks: the kinds of both -/
def iZip2 (b1 b2 : Bool) (K : PySem.W.Frag) (ta : TA) : TI := fun σ H R => ta σ H fun vs H1 => ∃ a1 a2 xs ys, vs = [.ref a1, .ref a2] ∧ SqK b1 K H1 a1 xs ∧ SqK b2 K H1 a2 ys ∧ R (It2 b1 b2 K a1 a2) H1
theorem fpNew {X : Cx} {pins : List (Addr × Obj)} {σ : L2.St} {H : Hp} {s : Shared} {c : Addr} (I : Inv X pins σ H s) (h : s.heap.objs.size ≤ c) : FpOk X pins H c := I.fpOk h (I.hok.fresh h)
theorem pi_zip2 {X : Cx} {e e2 : Expr} {ta : TA} {p pos tpos : Pos} {elts : List Expr} {kk : Nat} (b1 b2 : Bool) (hg : Gl X "zip") (hm : X.mg "zip" = none) (ha : PA X [e, e2] ta)
    (hs : starEach [e, e2] X.env = (false, eval e X.env) :: starEach [e2] X.env := by rfl) (hpl : (backTo pos (starEach [e2] X.env)).any (·.1) = false := by rfl) :
    PI X (.Tuple elts kk tpos) (.Call (.Name "zip" p) [e, e2] [] pos) (iZip2 b1 b2 X.K ta) := by
  constructor
  intro pins s σ H R I h
  refine Call_ ?_
  refine ld_blt I hg hm PyProof.Rows.boot_zip ?_
  refine PyProof.Rows.callWith_type1 (thn (ha.run pos pins s σ H _ I h) ?_) hs hpl
  rintro us s1 ⟨vs, H1, I1, r1, a1, a2, xs, ys, rfl, q1, q2, q⟩
  obtain ⟨u1, u2, rfl, e1, e2⟩ := vals2 r1
  cases e1; cases e2
  obtain ⟨us, w1, p1, m1⟩ := seqK I1 q1
  obtain ⟨ws, w2, p2, m2⟩ := seqK I1 q2
  refine zip_begins2 (beginsK b1 a1 us.toArray) (beginsK b2 a2 ws.toArray) p1 p2 fun h' c1 c2 c3 c4 c5 _ hk => wpAny_pyIter_zip c1 ?_
  refine ⟨_, _, _, _, H1, rfl, I1.kept (t' := s1.toks) hk, turn_2 (b1 := b1) (b2 := b2) m1 m2, ⟨c1, c2, ⟨_, _, c3⟩, itK_new c4, itK_new c5⟩, fun c hc => ?_, q⟩
  refine fpNew I1 ?_
  rcases mem5 hc with z | z | z | z | z <;> rw [z] <;> first | exact Nat.le_refl _ | exact Nat.le_add_right _ _

def It3 (b1 b2 b3 : Bool) (K : PySem.W.Frag) (a1 a2 a3 : Addr) : It where
  go := fun i H => ∃ (xs ys zs : List V) (x y z : V), SqK b1 K H a1 xs ∧ SqK b2 K H a2 ys ∧ SqK b3 K H a3 zs ∧ xs[i]? = some x ∧ ys[i]? = some y ∧ zs[i]? = some z
  yld := fun i H v H' => ∃ T x y z, v = .ref T ∧ H T = none ∧ H' = upd H T (.tup [x, y, z]) ∧ (∀ xs, SqK b1 K H a1 xs → xs[i]? = some x) ∧ (∀ ys, SqK b2 K H a2 ys → ys[i]? = some y) ∧ ∀ zs, SqK b3 K H a3 zs → zs[i]? = some z
  stop := fun i H => ∃ xs ys zs : List V, SqK b1 K H a1 xs ∧ SqK b2 K H a2 ys ∧ SqK b3 K H a3 zs ∧ i = min (min xs.length ys.length) zs.length
abbrev T3 (b1 b2 b3 : Bool) (a1 a2 a3 N : Addr) (i : Nat) (h : Heap) : Prop := IsZip h (N + 5) (N + 3) (N + 4) .none ∧ IsTupOf3 h (N + 3) (.ref N) (.ref (N + 1)) (.ref (N + 2)) ∧ (∃ u v z, IsTupOf3 h (N + 4) u v z) ∧ ItK b1 h N a1 i ∧ ItK b2 h (N + 1) a2 i ∧ ItK b3 h (N + 2) a3 i
theorem turn_3 {P : Program} {w : World} {K : PySem.W.Frag} {elts : List Expr} {kk : Nat} {tp : Pos} {b1 b2 b3 : Bool} {a1 a2 a3 N : Addr} (l1 : a1 < N) (l2 : a2 < N) (l3 : a3 < N) :
    Turn P w K (.Tuple elts kk tp) (It3 b1 b2 b3 K a1 a2 a3) [N + 5, N + 3, N + 4, N, N + 1, N + 2] (N + 5) (T3 b1 b2 b3 a1 a2 a3 N) where
  mem := by simp
  obj := fun i h st c hc => by
    obtain ⟨z1, z2, ⟨u, v, t, z3⟩, z4, z5, z6⟩ := st
    rcases mem6 hc with q | q | q | q | q | q <;> rw [q]
    · exact ⟨_, z1, fun v q => nomatch q⟩
    · exact ⟨_, z2, fun v q => nomatch q⟩
    · exact ⟨_, z3, fun v q => nomatch q⟩
    · exact itK_obj z4
    · exact itK_obj z5
    · exact itK_obj z6
  keep := fun i h h' st k => by
    obtain ⟨z1, z2, ⟨u, v, t, z3⟩, z4, z5, z6⟩ := st
    exact ⟨k _ (by simp) _ z1, k _ (by simp) _ z2, ⟨u, v, t, k _ (by simp) _ z3⟩, itK_keep z4 fun o e => k _ (by simp) o e, itK_keep z5 fun o e => k _ (by simp) o e, itK_keep z6 fun o e => k _ (by simp) o e⟩
  item := by
    intro X hP hw hK hc i pins s σ H E I hf st hg
    subst hP hw hK
    obtain ⟨xs, ys, zs, x, y, z, q1, q2, q3, e1, e2, e3⟩ := hg
    obtain ⟨us, r1, p1, m1⟩ := seqK I q1
    obtain ⟨ws, r2, p2, m2⟩ := seqK I q2
    obtain ⟨ts, r3, p3, m3⟩ := seqK I q3
    obtain ⟨u, g1, v1⟩ := r1.get e1
    obtain ⟨v, g2, v2⟩ := r2.get e2
    obtain ⟨t, g3, v3⟩ := r3.get e3
    obtain ⟨z1, z2, z3, z4, z5, z6⟩ := st
    have D1 := drawsK (prog := X.prog) (w := X.w) (A := X.A.in1) b1 (I.ok.hd hc) N a1 (Nat.ne_of_lt l1) us.toArray
    have D2 := drawsK (prog := X.prog) (w := X.w) (A := X.A.in1) b2 (I.ok.hd hc) (N + 1) a2 (Nat.ne_of_lt (Nat.lt_succ_of_lt l2)) ws.toArray
    have D3 := drawsK (prog := X.prog) (w := X.w) (A := X.A.in1) b3 (I.ok.hd hc) (N + 2) a3 (Nat.ne_of_lt (Nat.lt_succ_of_lt (Nat.lt_succ_of_lt l3))) ts.toArray
    have S := zip_sep3 (N := N) (fp1 := [a1]) (fp2 := [a2]) (fp3 := [a3]) (by simpa using l1) (by simpa using l2) (by simpa using l3)
    have n1 : i < us.length := (List.getElem?_eq_some_iff.mp g1).1
    have n2 : i < ws.length := (List.getElem?_eq_some_iff.mp g2).1
    have n3 : i < ts.length := (List.getElem?_eq_some_iff.mp g3).1
    have lt : ∀ c ∈ [N + 5, N + 3, N + 4, N, N + 1, N + 2], c < s.heap.objs.size := fun c hc' => by
      obtain ⟨u', v', t', z3⟩ := z3
      rcases mem6 hc' with q | q | q | q | q | q <;> rw [q]
      · exact Heap.lt_size z1
      · exact Heap.lt_size z2
      · exact Heap.lt_size z3
      · obtain ⟨o, e, _⟩ := itK_obj z4; exact Heap.lt_size e
      · obtain ⟨o, e, _⟩ := itK_obj z5; exact Heap.lt_size e
      · obtain ⟨o, e, _⟩ := itK_obj z6; exact Heap.lt_size e
    refine item_of (xs := [x, y, z]) (WalksT.zipD3 S D1 D2 D3) (by simp) I hf (by simp; omega) ⟨z1, z2, z3, ⟨z4, p1⟩, ⟨z5, p2⟩, ⟨z6, p3⟩⟩ lt (fun vals hv => ?_) (by show 3 ≤ sizeLine; decide) (fun T fT => ?_) (fun h' t => ?_)
    · obtain ⟨x', y', z', h1, h2, h3, rfl⟩ := hv
      simp only [List.getElem?_toArray] at h1 h2 h3
      rw [g1] at h1; rw [g2] at h2; rw [g3] at h3
      cases h1; cases h2; cases h3
      exact .cons v1 (.cons v2 (.cons v3 .nil))
    · exact ⟨T, x, y, z, rfl, fT, rfl, fun l hl => by rw [seqK_inj I hl q1]; exact e1, fun l hl => by rw [seqK_inj I hl q2]; exact e2, fun l hl => by rw [seqK_inj I hl q3]; exact e3⟩
    · exact ⟨t.1, t.2.1, t.2.2.1, t.2.2.2.1.1, t.2.2.2.2.1.1, t.2.2.2.2.2.1⟩
  done := by
    intro X hP hw hK hc i pins s σ H E I hf st hg
    subst hP hw hK
    obtain ⟨xs, ys, zs, q1, q2, q3, e⟩ := hg
    obtain ⟨us, r1, p1, m1⟩ := seqK I q1
    obtain ⟨ws, r2, p2, m2⟩ := seqK I q2
    obtain ⟨ts, r3, p3, m3⟩ := seqK I q3
    obtain ⟨z1, z2, z3, z4, z5, z6⟩ := st
    have D1 := drawsK (prog := X.prog) (w := X.w) (A := X.A.in1) b1 (I.ok.hd hc) N a1 (Nat.ne_of_lt l1) us.toArray
    have D2 := drawsK (prog := X.prog) (w := X.w) (A := X.A.in1) b2 (I.ok.hd hc) (N + 1) a2 (Nat.ne_of_lt (Nat.lt_succ_of_lt l2)) ws.toArray
    have D3 := drawsK (prog := X.prog) (w := X.w) (A := X.A.in1) b3 (I.ok.hd hc) (N + 2) a3 (Nat.ne_of_lt (Nat.lt_succ_of_lt (Nat.lt_succ_of_lt l3))) ts.toArray
    have S := zip_sep3 (N := N) (fp1 := [a1]) (fp2 := [a2]) (fp3 := [a3]) (by simpa using l1) (by simpa using l2) (by simpa using l3)
    have en : i = min (min us.toArray.size ws.toArray.size) ts.toArray.size := by
      have := r1.length
      have := r2.length
      have := r3.length
      simp only [List.size_toArray]
      omega
    subst en
    exact done_of (WalksT.zipD3 S D1 D2 D3) (by simp) I hf ⟨z1, z2, z3, ⟨z4, p1⟩, ⟨z5, p2⟩, ⟨z6, p3⟩⟩
  self := fun A i s Q E st h => wpAny_pyIter_zip st.1 h
def iZip3 (b1 b2 b3 : Bool) (K : PySem.W.Frag) (ta : TA) : TI := fun σ H R => ta σ H fun vs H1 => ∃ a1 a2 a3 xs ys zs, vs = [.ref a1, .ref a2, .ref a3] ∧ SqK b1 K H1 a1 xs ∧ SqK b2 K H1 a2 ys ∧ SqK b3 K H1 a3 zs ∧ R (It3 b1 b2 b3 K a1 a2 a3) H1
theorem vals3 {a b c : V} {us : List Value} (r : Vals [a, b, c] us) : ∃ x y z, us = [x, y, z] ∧ RelV a x ∧ RelV b y ∧ RelV c z := by
  cases r with
  | cons r1 rr =>
    obtain ⟨y, z, rfl, h1, h2⟩ := vals2 rr
    exact ⟨_, y, z, rfl, r1, h1, h2⟩
theorem pi_zip3 {X : Cx} {e e2 e3 : Expr} {ta : TA} {p pos tpos : Pos} {elts : List Expr} {kk : Nat} (b1 b2 b3 : Bool) (hg : Gl X "zip") (hm : X.mg "zip" = none) (ha : PA X [e, e2, e3] ta)
    (hs : starEach [e, e2, e3] X.env = (false, eval e X.env) :: starEach [e2, e3] X.env := by rfl) (hpl : (backTo pos (starEach [e2, e3] X.env)).any (·.1) = false := by rfl) :
    PI X (.Tuple elts kk tpos) (.Call (.Name "zip" p) [e, e2, e3] [] pos) (iZip3 b1 b2 b3 X.K ta) := by
  constructor
  intro pins s σ H R I h
  refine Call_ ?_
  refine ld_blt I hg hm PyProof.Rows.boot_zip ?_
  refine PyProof.Rows.callWith_type1 (thn (ha.run pos pins s σ H _ I h) ?_) hs hpl
  rintro us s1 ⟨vs, H1, I1, r1, a1, a2, a3, xs, ys, zs, rfl, q1, q2, q3, q⟩
  obtain ⟨u1, u2, u3, rfl, e1, e2, e3⟩ := vals3 r1
  cases e1; cases e2; cases e3
  obtain ⟨us, w1, p1, m1⟩ := seqK I1 q1
  obtain ⟨ws, w2, p2, m2⟩ := seqK I1 q2
  obtain ⟨ts, w3, p3, m3⟩ := seqK I1 q3
  refine zip_begins3 (beginsK b1 a1 us.toArray) (beginsK b2 a2 ws.toArray) (beginsK b3 a3 ts.toArray) p1 p2 p3 fun h' c1 c2 c3 c4 c5 c6 _ hk => wpAny_pyIter_zip c1 ?_
  refine ⟨_, _, _, _, H1, rfl, I1.kept (t' := s1.toks) hk, turn_3 (b1 := b1) (b2 := b2) (b3 := b3) m1 m2 m3, ⟨c1, c2, ⟨_, _, _, c3⟩, itK_new c4, itK_new c5, itK_new c6⟩, fun c hc => ?_, q⟩
  refine fpNew I1 ?_
  rcases mem6 hc with z | z | z | z | z | z <;> rw [z] <;> first | exact Nat.le_refl _ | exact Nat.le_add_right _ _

/-! ### enumerate of a list or a tuple -/
def It1 (b : Bool) (K : PySem.W.Frag) (a : Addr) : It where
  go := fun i H => ∃ (xs : List V) (x : V), SqK b K H a xs ∧ xs[i]? = some x
  yld := fun i H v H' => ∃ T x, v = .ref T ∧ H T = none ∧ H' = upd H T (.tup [.int (i : Nat), x]) ∧ ∀ xs, SqK b K H a xs → xs[i]? = some x
  stop := fun i H => ∃ xs : List V, SqK b K H a xs ∧ i = xs.length
abbrev T1 (b : Bool) (a N : Addr) (i : Nat) (h : Heap) : Prop := (∃ old, IsEnum h (N + 1) N (0 + (i : Int)) old) ∧ ItK b h N a i
theorem turn_1 {P : Program} {w : World} {K : PySem.W.Frag} {elts : List Expr} {kk : Nat} {tp : Pos} {b : Bool} {a N : Addr} (l1 : a < N) :
    Turn P w K (.Tuple elts kk tp) (It1 b K a) [N + 1, N] (N + 1) (T1 b a N) where
  mem := by simp
  obj := fun i h st c hc => by
    obtain ⟨⟨old, z1⟩, z2⟩ := st
    have hc' : c = N + 1 ∨ c = N := by simpa using hc
    rcases hc' with q | q <;> rw [q]
    · exact ⟨_, z1, fun v q => nomatch q⟩
    · exact itK_obj z2
  keep := fun i h h' st k => by
    obtain ⟨⟨old, z1⟩, z2⟩ := st
    exact ⟨⟨old, k _ (by simp) _ z1⟩, itK_keep z2 fun o e => k _ (by simp) o e⟩
  item := by
    intro X hP hw hK hc i pins s σ H E I hf st hg
    subst hP hw hK
    obtain ⟨xs, x, q1, e1⟩ := hg
    obtain ⟨us, r1, p1, m1⟩ := seqK I q1
    obtain ⟨u, g1, v1⟩ := r1.get e1
    obtain ⟨z1, z2⟩ := st
    have D1 := drawsK (prog := X.prog) (w := X.w) (A := X.A.in1) b (I.ok.hd hc) N a (Nat.ne_of_lt l1) us.toArray
    have n1 : i < us.length := (List.getElem?_eq_some_iff.mp g1).1
    have lt : ∀ c ∈ [N + 1, N], c < s.heap.objs.size := fun c hc' => by
      obtain ⟨old, z1⟩ := z1
      have hc' : c = N + 1 ∨ c = N := by simpa using hc'
      rcases hc' with q | q <;> rw [q]
      · exact Heap.lt_size z1
      · obtain ⟨o, e, _⟩ := itK_obj z2; exact Heap.lt_size e
    have W := WalksT.enumFrom 0 D1 (N + 1) (Nat.ne_of_gt (Nat.lt_succ_self N)) (by
      intro hm
      have hm' : N + 1 = N ∨ N + 1 = a := by simpa using hm
      rcases hm' with q | q
      · exact absurd q (Nat.ne_of_gt (Nat.lt_succ_self N))
      · exact absurd q.symm (Nat.ne_of_lt (Nat.lt_succ_of_lt l1))) (by simp)
    refine item_of (xs := [.int (i : Nat), x]) W (by simp) I hf (by simpa using n1) ⟨z1, ⟨z2, p1⟩⟩ lt (fun vals hv => ?_) (by show 2 ≤ sizeLine; decide) (fun T fT => ?_) (fun h' t => ?_)
    · obtain ⟨t, x', h1, rfl⟩ := hv
      simp only [List.getElem?_toArray] at h1
      rw [g1] at h1
      cases h1
      exact .cons ⟨t, by rw [Int.zero_add]⟩ (.cons v1 .nil)
    · exact ⟨T, x, rfl, fT, rfl, fun l hl => by rw [seqK_inj I hl q1]; exact e1⟩
    · exact ⟨t.1, t.2.1⟩
  done := by
    intro X hP hw hK hc i pins s σ H E I hf st hg
    subst hP hw hK
    obtain ⟨xs, q1, e⟩ := hg
    obtain ⟨us, r1, p1, m1⟩ := seqK I q1
    obtain ⟨z1, z2⟩ := st
    have D1 := drawsK (prog := X.prog) (w := X.w) (A := X.A.in1) b (I.ok.hd hc) N a (Nat.ne_of_lt l1) us.toArray
    have W := WalksT.enumFrom 0 D1 (N + 1) (Nat.ne_of_gt (Nat.lt_succ_self N)) (by
      intro hm
      have hm' : N + 1 = N ∨ N + 1 = a := by simpa using hm
      rcases hm' with q | q
      · exact absurd q (Nat.ne_of_gt (Nat.lt_succ_self N))
      · exact absurd q.symm (Nat.ne_of_lt (Nat.lt_succ_of_lt l1))) (by simp)
    have en : i = us.toArray.size := by
      have := r1.length
      simp only [List.size_toArray]
      omega
    subst en
    exact done_of W (by simp) I hf ⟨z1, ⟨z2, p1⟩⟩
  self := fun A i s Q E st h => by
    obtain ⟨⟨old, z1⟩, _⟩ := st
    exact wpAny_pyIter_enum z1 h
set_option maxHeartbeats 1000000 in
theorem meets_enum1 {v : Value} {o : Obj} {H : Heap → Prop} (B : Begins v o H) :
    Meets (Builtin.«enumerate.__new__» ⟨[.type "enumerate", v], []⟩) (fun _ R s => H s.heap ∧
      R (.ok (.ret (.ref (s.heap.push o).objs.size))) { s with heap := (s.heap.push o).push ⟨.type "enumerate", none, .fields #[.none, .bool false, .ref s.heap.objs.size, rawInt 0, .none, .none], #[]⟩ }) :=
  .of_wp fun prog w A R s h => by
    obtain ⟨hp, g, d, tk, os⟩ := s
    obtain ⟨h1, h⟩ := h
    have hsub := sub_enumerate
    have q1 : ∀ {A' : Around} {E : Value → Shared → Prop} {Q : Value → Shared → Prop}, Q (.ref hp.objs.size) ⟨hp.push o, g, d, tk, os⟩ → wpAny (model prog w) A' (pyIter v) Q E ⟨hp, g, d, tk, os⟩ := by
      intro A' E Q q
      exact B.iter prog w _ _ ⟨hp, g, d, tk, os⟩ _ h1 q
    wp_walk using q1
    apply wpAny_stack_any
    intro st
    apply wpAny_pure
    split
    · rename_i c _ _ _ _ _
      cases (c == Value.type "enumerate") <;> (wp_walk using q1; exact ⟨_, rfl, h⟩)
    · wp_walk using q1
      exact ⟨_, rfl, h⟩
theorem enum_begins1 {prog : Program} {w : World} {A : Around} {E : Value → Shared → Prop} {s : Shared} {v : Value} {o : Obj} {H : Heap → Prop} {Q : Value → Shared → Prop} (B : Begins v o H) (h1 : H s.heap)
    (h : ∀ h', IsEnum h' (s.heap.objs.size + 1) s.heap.objs.size 0 .none → h'.get? s.heap.objs.size = some o → (∀ b o, s.heap.get? b = some o → h'.get? b = some o) → Q (.ref (s.heap.objs.size + 1)) { s with heap := h' }) :
    wpAny (model prog w) A (call (.type "enumerate") [v]) Q E s := by
  refine callType_new F.called_enumerate (by decide) (F.typeCall_enumerate_1 _) (F.newCall_enumerate_1 _) (fun obj => F.args_object_init_2 obj _) F.entry_enumerate_new (meets_enum1 B) ⟨h1, ?_⟩
  have hz : (s.heap.push o).objs.size = s.heap.objs.size + 1 := Heap.size_push ..
  have he := Heap.get?_push_size (s.heap.push o) (o := ⟨.type "enumerate", none, .fields #[.none, .bool false, .ref s.heap.objs.size, rawInt 0, .none, .none], #[]⟩) rfl
  rw [hz] at he
  show _ ∧ _
  rw [hz]
  exact ⟨⟨_, he, rfl⟩, h _ he (Heap.get?_push_of_some _ (Heap.get?_push_size _ B.free)) fun b o x => Heap.get?_push_of_some _ (Heap.get?_push_of_some _ x)⟩
def iEnum1 (K : PySem.W.Frag) (ta : TA) : TI := fun σ H R => ta σ H fun vs H1 => ∃ b a xs, vs = [.ref a] ∧ SqK b K H1 a xs ∧ R (It1 b K a) H1
theorem pi_enum1 {X : Cx} {e : Expr} {ta : TA} {p pos tpos : Pos} {elts : List Expr} {kk : Nat} (hg : Gl X "enumerate") (hm : X.mg "enumerate" = none) (ha : PA X [e] ta)
    (hs : starEach [e] X.env = (false, eval e X.env) :: starEach [] X.env := by rfl) (hpl : (backTo pos (starEach [] X.env)).any (·.1) = false := by rfl) :
    PI X (.Tuple elts kk tpos) (.Call (.Name "enumerate" p) [e] [] pos) (iEnum1 X.K ta) := by
  constructor
  intro pins s σ H R I h
  refine Call_ ?_
  refine ld_blt I hg hm PyProof.Rows.boot_enumerate ?_
  refine PyProof.Rows.callWith_type1 (thn (ha.run pos pins s σ H _ I h) ?_) hs hpl
  rintro us s1 ⟨vs, H1, I1, r1, b, a, xs, rfl, q1, q⟩
  obtain ⟨u1, rfl, e1⟩ := vals1 r1
  cases e1
  obtain ⟨us, w1, p1, m1⟩ := seqK I1 q1
  refine enum_begins1 (beginsK b a us.toArray) p1 fun h' c1 c2 hk => wpAny_pyIter_enum c1 ?_
  refine ⟨_, _, _, _, H1, rfl, I1.kept (t' := s1.toks) hk, turn_1 (b := b) m1, ⟨⟨_, c1⟩, itK_new c2⟩, fun c hc => ?_, q⟩
  refine fpNew I1 ?_
  have hc' : c = s1.heap.objs.size + 1 ∨ c = s1.heap.objs.size := by simpa using hc
  rcases hc' with z | z <;> rw [z] <;> first | exact Nat.le_refl _ | exact Nat.le_add_right _ _

/-! ### list + list, both read -/
def rCatL (K : PySem.W.Frag) : R2 := fun x y H Q => ∃ l b xs zs, x = .ref l ∧ y = .ref b ∧ SqL K H l xs ∧ SqL K H b zs ∧ xs.length + zs.length ≤ sizeLine ∧ ∀ p, H p = none → Q (.ref p) (upd H p (.lst (xs ++ zs)))
theorem op_catL {X : Cx} : OpR X (binaryOp .Add) (rCatL X.K) := by
  intro pins s σ H x y v u Q I rx ry h
  obtain ⟨l, b, xs, zs, rfl, rfl, h1, h2, hz, q⟩ := h
  cases rx
  cases ry
  obtain ⟨i1, r1, p1, _⟩ := I.list h1
  obtain ⟨i2, r2, p2, _⟩ := I.list h2
  have l1 := r1.length
  have l2 := r2.length
  obtain ⟨⟨c1, d1, t1, w1⟩, n1, o1, k1, g1, e1⟩ := p1
  obtain ⟨⟨c2, d2, t2, w2⟩, n2, o2, k2, g2, e2⟩ := p2
  simp only at k1 g1 e1 k2 g2 e2
  subst k1 g1 e1 k2 g2 e2
  have ea : i1.toArray ++ i2.toArray = (i1 ++ i2).toArray := by simp
  refine concat_meets ⟨_, o1, rfl⟩ ⟨_, o2, rfl⟩ noFill_list_add seq_list_add PySem.F.slot_list_add PySem.F.entry_list_add (PySem.F.args_list_add_2 _ _) (list_addW l b i1.toArray i2.toArray n1 n2 none none w1 w2 (by simp; omega)) ⟨o1, o2, ?_⟩
  rw [ea]
  exact ⟨.ref _, _, I.lnew (t' := s.toks) (r1.append r2) (by rw [List.length_append]; omega), rfl, q _ I.fresh⟩
/-! ### sum of a tuple of ints -/
def rSumT (K : PySem.W.Frag) : List V → Hp → VK → Prop := fun vs H Q => ∃ (a : Addr) (ns : List Int), vs = [V.ref a] ∧ SqT K H a (ns.map V.int) ∧ Q (.int ns.sum) H
theorem preSum_list (ns : List Int) : ∀ k, k ≤ ns.length → preSum (fun i => ns.getD i 0) k = (ns.take k).sum
  | 0, _ => by simp [preSum]
  | k + 1, h => by
    have ih := preSum_list ns k (by omega)
    have e : ns[k]? = some ns[k] := List.getElem?_eq_getElem (by omega)
    rw [sum_take e, ← ih]
    show preSum (fun i => ns.getD i 0) k + ns.getD k 0 = _
    rw [List.getD_eq_getElem?_getD, e]
    rfl
theorem cr_sumT {X : Cx} (hc : X.calm = true) : CallR X (.builtin "sum") (rSumT X.K) := by
  intro pins s σ H vs us Q I r h
  obtain ⟨a, ns, rfl, hs, q⟩ := h
  obtain ⟨its, rv, p, _⟩ := I.tuple hs
  have hlt := p.lt
  have hlen := rv.length
  rw [Vals.ref1 r]
  refine call_sum_walkG (wpAny_pyIter_tuple p ?_)
  refine ⟨_, _, _, _, _, _, fun i => ns.getD i 0, rfl, Walks.tuple (A := X.A.in1) (I.ok.hd hc) _ a (Nat.ne_of_lt hlt) its.toArray, ⟨⟨_, Heap.get?_push_size _ rfl, rfl, rfl⟩, ?_⟩, fun b hb => ?_, fun i v hv => ?_, fun h' tk t' hk => ?_⟩
  · obtain ⟨o, e, r⟩ := id p
    exact ⟨o, Heap.get?_push_of_some _ e, r⟩
  · show b < (s.heap.push _).objs.size
    rw [Heap.size_push]
    have hb' : b = s.heap.objs.size ∨ b = a := by simpa using hb
    rcases hb' with z | z <;> rw [z]
    · exact Nat.lt_succ_self _
    · exact Nat.lt_succ_of_lt hlt
  · have hv' : its[i]? = some v := by simpa using hv
    have hi : i < its.length := (List.getElem?_eq_some_iff.mp hv').1
    rw [List.length_map] at hlen
    have hn : i < ns.length := by omega
    have e : (ns.map V.int)[i]? = some (.int (ns.getD i 0)) := by
      rw [List.getElem?_map, List.getElem?_eq_getElem hn, List.getD_eq_getElem?_getD, List.getElem?_eq_getElem hn]
      rfl
    obtain ⟨u, hu, t, ru⟩ := rv.get e
    rw [hv'] at hu
    cases hu
    exact ⟨t, ru⟩
  · rw [List.length_map] at hlen
    have hk' : ∀ b o, s.heap.get? b = some o → h'.get? b = some o := fun b o e => hk b o (by
      have := Heap.lt_size e
      simp
      exact Nat.ne_of_lt this) (Heap.get?_push_of_some _ e)
    refine ⟨.int _, H, I.kept hk', ⟨t', rfl⟩, ?_⟩
    rw [List.size_toArray, ← hlen, preSum_list ns _ (Nat.le_refl _), List.take_length]
    exact q
end PS

namespace PS
open PySem PySem.Spec PyProof.Rows L2
/-! ### data in the heap -/
section
variable {K : PySem.W.Frag} {H H' : Hp}
theorem seqT_mono {a : Addr} {xs : List V} (e : Same H H') (h : SqT K H a xs) : SqT K H' a xs := by
  rcases h with (h | ⟨o, h⟩) | h
  · exact .inl (.inl (e _ _ h))
  · exact .inl (.inr ⟨o, e _ _ h⟩)
  · exact .inr h
mutual
theorem dp_mono (e : Same H H') : ∀ (d : PyData) (v : V), Dp K H v d → Dp K H' v d
  | .none, _, h => by cases h; exact .non
  | .bool b, _, h => by cases h; exact .bl b
  | .int i, _, h => by cases h; exact .int i
  | .str x, _, h => by cases h; exact .str x
  | .list ds, _, h => by
    cases h with
    | lst s a => exact .lst (e.seq s) (dpAll_mono e ds _ a)
  | .tuple ds, _, h => by
    cases h with
    | tup s a => exact .tup (seqT_mono e s) (dpAll_mono e ds _ a)
  | .dict _, _, h => by cases h
theorem dpAll_mono (e : Same H H') : ∀ (ds : List PyData) (vs : List V), DpAll K H vs ds → DpAll K H' vs ds
  | [], _, h => by cases h; exact .nil
  | d :: ds, _, h => by
    cases h with
    | cons h1 h2 => exact .cons (dp_mono e d _ h1) (dpAll_mono e ds _ h2)
end
theorem Dpm {d : PyData} {v : V} (e : Same H H') (h : Dp K H v d) : Dp K H' v d := dp_mono e d v h
theorem dpAll_len : ∀ {ds : List PyData} {vs : List V}, DpAll K H vs ds → vs.length = ds.length
  | [], _, h => by cases h; rfl
  | d :: ds, _, h => by
    cases h with
    | cons h1 h2 => simp [dpAll_len h2]
theorem dpAll_get : ∀ {ds : List PyData} {vs : List V} {i : Nat} {v : V}, DpAll K H vs ds → vs[i]? = some v → ∃ d, ds[i]? = some d ∧ Dp K H v d
  | [], _, i, v, h, e => by cases h; simp at e
  | d :: ds, _, i, v, h, e => by
    cases h with
    | cons h1 h2 =>
      cases i with
      | zero => simp at e; subst e; exact ⟨d, rfl, h1⟩
      | succ i =>
        obtain ⟨d', e1, e2⟩ := dpAll_get (i := i) (v := v) h2 (by simpa using e)
        exact ⟨d', by simpa using e1, e2⟩
theorem dpAll_at : ∀ {ds : List PyData} {vs : List V} {i : Nat} {d : PyData}, DpAll K H vs ds → ds[i]? = some d → ∃ v, vs[i]? = some v ∧ Dp K H v d
  | [], _, i, v, h, e => by simp at e
  | d :: ds, _, i, v, h, e => by
    cases h with
    | cons h1 h2 =>
      cases i with
      | zero => simp at e; subst e; exact ⟨_, rfl, h1⟩
      | succ i =>
        obtain ⟨d', e1, e2⟩ := dpAll_at (i := i) (d := v) h2 (by simpa using e)
        exact ⟨d', by simpa using e1, e2⟩
theorem dpAll_app : ∀ {ds es : List PyData} {vs us : List V}, DpAll K H vs ds → DpAll K H us es → DpAll K H (vs ++ us) (ds ++ es)
  | [], _, _, _, h, g => by cases h; exact g
  | d :: ds, _, _, _, h, g => by
    cases h with
    | cons h1 h2 => exact .cons h1 (dpAll_app h2 g)
theorem dpAll_take : ∀ {ds : List PyData} {vs : List V} (n : Nat), DpAll K H vs ds → DpAll K H (vs.take n) (ds.take n)
  | ds, vs, 0, h => by simp; exact .nil
  | [], _, n + 1, h => by cases h; exact .nil
  | d :: ds, _, n + 1, h => by
    cases h with
    | cons h1 h2 => exact .cons h1 (dpAll_take n h2)
theorem dpAll_drop : ∀ {ds : List PyData} {vs : List V} (n : Nat), DpAll K H vs ds → DpAll K H (vs.drop n) (ds.drop n)
  | ds, vs, 0, h => by simpa using h
  | [], _, n + 1, h => by cases h; exact .nil
  | d :: ds, _, n + 1, h => by
    cases h with
    | cons h1 h2 => exact dpAll_drop n h2
theorem dp_tup {v : V} {ds : List PyData} (h : Dp K H v (.tuple ds)) : ∃ a xs, v = .ref a ∧ SqT K H a xs ∧ DpAll K H xs ds := by
  cases h with
  | tup s a => exact ⟨_, _, rfl, s, a⟩
theorem dp_lst {v : V} {ds : List PyData} (h : Dp K H v (.list ds)) : ∃ a xs, v = .ref a ∧ SqL K H a xs ∧ DpAll K H xs ds := by
  cases h with
  | lst s a => exact ⟨_, _, rfl, s, a⟩
/-- ints -/
abbrev iD (ns : List Int) : List PyData := ns.map PyData.int
abbrev iV (ns : List Int) : List V := ns.map V.int
theorem dpAll_ints : ∀ {ns : List Int} {vs : List V}, DpAll K H vs (iD ns) → vs = iV ns
  | [], _, h => by cases h; rfl
  | n :: ns, _, h => by
    cases h with
    | cons h1 h2 =>
      cases h1
      rw [dpAll_ints (ns := ns) h2]
      rfl
theorem ints_dpAll : ∀ (ns : List Int), DpAll K H (iV ns) (iD ns)
  | [] => .nil
  | n :: ns => .cons (.int n) (ints_dpAll ns)
abbrev tI (ns : List Int) : PyData := .tuple (iD ns)
theorem dp_tI {v : V} {ns : List Int} (h : Dp K H v (tI ns)) : ∃ a, v = .ref a ∧ SqT K H a (iV ns) := by
  obtain ⟨a, xs, rfl, s, t⟩ := dp_tup h
  rw [dpAll_ints t] at s
  exact ⟨a, rfl, s⟩
theorem tI_dp {a : Addr} {ns : List Int} (h : SqT K H a (iV ns)) : Dp K H (.ref a) (tI ns) := .tup h (ints_dpAll ns)
theorem dp_int {v : V} {i : Int} (h : Dp K H v (.int i)) : v = .int i := by cases h; rfl
theorem dp_str {v : V} {x : Str} (h : Dp K H v (.str x)) : v = .str x := by cases h; rfl
/-! ### kinds -/
def tyN : PyData → String
  | .none => "NoneType" | .bool _ => "bool" | .int _ => "int" | .str _ => "str" | .list _ => "list" | .tuple _ => "tuple" | .dict _ => "dict"
theorem dp_ty {v : V} {d : PyData} (h : Dp K H v d) : TyX K H v (.type (tyN d)) := by
  cases h with
  | non => exact .base .non
  | bl b => exact .base (.bl b)
  | int i => exact .base (.int i)
  | str x => exact .base (.str x)
  | lst s a =>
    rcases s with (s | ⟨o, s⟩) | ⟨o, its, n, e, c, _⟩
    · exact .base (.lst s)
    · exact .base (.frz s)
    · exact .kList e c
  | tup s a =>
    rcases s with (s | ⟨o, s⟩) | ⟨o, its, n, e, c, _⟩
    · exact .base (.tup s)
    · exact .fTuple s
    · exact .kTuple e c
end
/-- isinstance(x, n) of data -/
def isA (d : PyData) (n : String) : Bool := (kitB (tyN d) n).getD false
def rIsD (K : PySem.W.Frag) : List V → Hp → VK → Prop := fun xs H Q => ∃ (x : V) (n : String) (d : PyData), xs = [x, .ty n] ∧ Dp K H x d ∧ (kitB (tyN d) n).isSome = true ∧ Q (.bl (isA d n)) H
theorem call_isD {X : Cx} : CallR X (.builtin "isinstance") (rIsD X.K) := by
  intro pins s σ H xs us Q I r h
  obtain ⟨x, n, d, rfl, hd, hs, q⟩ := h
  refine call_isi pins s σ H _ us Q I r ⟨x, .ty n, _, _, isA d n, rfl, .ty n, dp_ty hd, ?_, q⟩
  apply kit_ty
  unfold isA
  cases e : kitB (tyN d) n with
  | none => rw [e] at hs; cases hs
  | some b => rfl
theorem kS (d : PyData) (n : String) (h : n = "int" ∨ n = "bool" ∨ n = "str" ∨ n = "list" ∨ n = "tuple") : (kitB (tyN d) n).isSome = true := by
  rcases h with rfl | rfl | rfl | rfl | rfl <;> cases d <;> simp only [tyN] <;> decide +kernel
theorem kInt (d : PyData) : (kitB (tyN d) "int").isSome = true := kS d _ (by simp)
theorem kBool (d : PyData) : (kitB (tyN d) "bool").isSome = true := kS d _ (by simp)
theorem kStr (d : PyData) : (kitB (tyN d) "str").isSome = true := kS d _ (by simp)
theorem kList (d : PyData) : (kitB (tyN d) "list").isSome = true := kS d _ (by simp)
theorem kTuple (d : PyData) : (kitB (tyN d) "tuple").isSome = true := kS d _ (by simp)
def isW : PyData → Bool | .int _ => true | _ => false
def isT : PyData → Bool | .tuple _ => true | _ => false
def isL : PyData → Bool | .list _ => true | _ => false
def isS : PyData → Bool | .str _ => true | _ => false
def isB : PyData → Bool | .bool _ => true | _ => false
def isIB : PyData → Bool | .bool _ => true | .int _ => true | _ => false
theorem isA_tuple (d : PyData) : isA d "tuple" = isT d := by cases d <;> simp only [isA, tyN, isT] <;> decide +kernel
theorem isA_list (d : PyData) : isA d "list" = isL d := by cases d <;> simp only [isA, tyN, isL] <;> decide +kernel
theorem isA_str (d : PyData) : isA d "str" = isS d := by cases d <;> simp only [isA, tyN, isS] <;> decide +kernel
theorem isA_bool (d : PyData) : isA d "bool" = isB d := by cases d <;> simp only [isA, tyN, isB] <;> decide +kernel
theorem isA_int (d : PyData) : isA d "int" = isIB d := by cases d <;> simp only [isA, tyN, isIB] <;> decide +kernel
/-! ### shapes -/
mutual
theorem dp_can {K : PySem.W.Frag} {H : Hp} : ∀ (d : PyData) (v : V), Dp K H v d → d.plain = true
  | .none, _, _ => rfl
  | .bool _, _, _ => rfl
  | .int _, _, _ => rfl
  | .str _, _, _ => rfl
  | .list ds, _, h => by
    cases h with
    | lst s a => simpa [PyData.plain] using dpAll_can ds _ a
  | .tuple ds, _, h => by
    cases h with
    | tup s a => simpa [PyData.plain] using dpAll_can ds _ a
  | .dict _, _, h => by cases h
theorem dpAll_can {K : PySem.W.Frag} {H : Hp} : ∀ (ds : List PyData) (vs : List V), DpAll K H vs ds → PyData.plainAll ds = true
  | [], _, _ => rfl
  | d :: ds, _, h => by
    cases h with
    | cons h1 h2 => simp [PyData.plainAll, dp_can d _ h1, dpAll_can ds _ h2]
end
/-- == and != of data, nested less than 65 deep on the left -/
def rEqP (K : PySem.W.Frag) : R2 := fun x y H Q => ∃ d e, Dp K H x d ∧ Dp K H y e ∧ d.depth ≤ 64 ∧ Q (.bl (PyData.eqv d e)) H
def rNeP (K : PySem.W.Frag) : R2 := fun x y H Q => ∃ d e, Dp K H x d ∧ Dp K H y e ∧ d.depth ≤ 64 ∧ Q (.bl (!PyData.eqv d e)) H
theorem op_eqP {X : Cx} (hu : X.A.units + 64 < cLine) : OpR X (compareOp .Eq) (rEqP X.K) := by
  intro pins s σ H x y v u Q I rx ry h
  obtain ⟨d, e, hd, he, hl, q⟩ := h
  obtain ⟨as, r1⟩ := Dp.reads I d x v hd rx
  obtain ⟨bs, r2⟩ := Dp.reads I e y u he ry
  exact SeqAt.eq_plain r1 r2 (dp_can d x hd) (dp_can e y he) (by omega) ⟨.bl _, H, I, rfl, q⟩
theorem op_neP {X : Cx} (hu : X.A.units + 64 < cLine) : OpR X (compareOp .NotEq) (rNeP X.K) := by
  intro pins s σ H x y v u Q I rx ry h
  obtain ⟨d, e, hd, he, hl, q⟩ := h
  obtain ⟨as, r1⟩ := Dp.reads I d x v hd rx
  obtain ⟨bs, r2⟩ := Dp.reads I e y u he ry
  exact SeqAt.ne_plain r1 r2 (dp_can d x hd) (dp_can e y he) (by omega) ⟨.bl _, H, I, rfl, q⟩
theorem eqv_self {K : PySem.W.Frag} {H : Hp} {d : PyData} {v : V} (h : Dp K H v d) : PyData.eqv d d = true := SeqAt.eqv_refl_plain d (dp_can d v h)
theorem depthAll_le {n : Nat} : ∀ (ds : List PyData), (∀ d ∈ ds, d.depth ≤ n) → PyData.depthAll ds ≤ n
  | [], _ => by simp [PyData.depthAll]
  | d :: ds, h => by
    rw [PyData.depthAll]
    exact Nat.max_le.mpr ⟨h d (by simp), depthAll_le ds fun x hx => h x (by simp [hx])⟩
theorem depth_of_all {n : Nat} : ∀ (ds : List PyData), PyData.depthAll ds ≤ n → ∀ d ∈ ds, d.depth ≤ n
  | [], _, d, h => by simp at h
  | x :: ds, h, d, hd => by
    rw [PyData.depthAll] at h
    obtain ⟨h1, h2⟩ := Nat.max_le.mp h
    rcases List.mem_cons.mp hd with rfl | hd
    · exact h1
    · exact depth_of_all ds h2 d hd
theorem depth_tI (ns : List Int) : (tI ns).depth ≤ 1 := by
  rw [PyData.depth]
  have : PyData.depthAll (iD ns) ≤ 0 := depthAll_le _ fun d hd => by
    obtain ⟨i, _, rfl⟩ := List.mem_map.mp hd
    simp [PyData.depth]
  omega
/-! ### the heap without one cell -/
def Off (k : Addr) (H : Hp) : Hp := fun b => if b = k then none else H b
theorem off_same (k : Addr) (H : Hp) : Same (Off k H) H := fun b o h => by
  unfold Off at h
  split at h
  · cases h
  · exact h
theorem off_mono {k : Addr} {H H' : Hp} (e : Same H H') : Same (Off k H) (Off k H') := fun b o h => by
  unfold Off at h ⊢
  split at h
  · cases h
  · rename_i n
    rw [if_neg n]
    exact e b o h
theorem off_of {k : Addr} {H H' : Hp} (e : ∀ b o, b ≠ k → H b = some o → H' b = some o) : Same (Off k H) (Off k H') := fun b o h => by
  unfold Off at h ⊢
  split at h
  · cases h
  · rename_i n
    rw [if_neg n]
    exact e b o n h
theorem off_back {k : Addr} {H H' : Hp} (e : Same (Off k H) (Off k H')) {b : Addr} {o : HO} (n : b ≠ k) (h : H b = some o) : H' b = some o := by
  have h1 : Off k H b = some o := by unfold Off; rw [if_neg n]; exact h
  have h2 := e b o h1
  unfold Off at h2
  rw [if_neg n] at h2
  exact h2
theorem off_at {k b : Addr} {H : Hp} {o : HO} (n : b ≠ k) (h : H b = some o) : Off k H b = some o := by
  unfold Off
  rw [if_neg n]
  exact h
theorem same_new {H : Hp} {p : Addr} {o : HO} (h : H p = none) : Same H (upd H p o) := fun b x e => by
  rw [upd_ne (ne_of_none e h)]
  exact e
/-! data without lists does not hold the cell of a list -/
mutual
def noL : PyData → Bool
  | .list _ => false
  | .tuple ds => noLs ds
  | .none | .bool _ | .int _ | .str _ | .dict _ => true
def noLs : List PyData → Bool
  | [] => true
  | d :: ds => noL d && noLs ds
end
theorem noLs_all : ∀ (ds : List PyData), (∀ d ∈ ds, noL d = true) → noLs ds = true
  | [], _ => rfl
  | d :: ds, h => by simp [noLs, h d (by simp), noLs_all ds fun x hx => h x (by simp [hx])]
theorem noL_tI (ns : List Int) : noL (tI ns) = true := by
  rw [noL]
  exact noLs_all _ fun d hd => by
    obtain ⟨i, _, rfl⟩ := List.mem_map.mp hd
    rfl
mutual
theorem dp_off {K : PySem.W.Frag} {H : Hp} {k : Addr} {l : List V} (hk : H k = some (.lst l)) : ∀ (d : PyData) (v : V), noL d = true → Dp K H v d → Dp K (Off k H) v d
  | .none, _, _, h => by cases h; exact .non
  | .bool b, _, _, h => by cases h; exact .bl b
  | .int i, _, _, h => by cases h; exact .int i
  | .str x, _, _, h => by cases h; exact .str x
  | .list ds, _, n, h => by simp [noL] at n
  | .tuple ds, _, n, h => by
    cases h with
    | @tup a xs _ s al =>
      refine .tup ?_ (dpAll_off hk ds _ (by simpa [noL] using n) al)
      rcases s with (s | ⟨o, s⟩) | s
      · exact .inl (.inl (off_at (ne_of s hk (by intro z; cases z)) s))
      · exact .inl (.inr ⟨o, off_at (ne_of s hk (by intro z; cases z)) s⟩)
      · exact .inr s
  | .dict _, _, _, h => by cases h
theorem dpAll_off {K : PySem.W.Frag} {H : Hp} {k : Addr} {l : List V} (hk : H k = some (.lst l)) : ∀ (ds : List PyData) (vs : List V), noLs ds = true → DpAll K H vs ds → DpAll K (Off k H) vs ds
  | [], _, _, h => by cases h; exact .nil
  | d :: ds, _, n, h => by
    cases h with
    | cons h1 h2 =>
      have n' : noL d = true ∧ noLs ds = true := by simpa [noLs] using n
      exact .cons (dp_off hk d _ n'.1 h1) (dpAll_off hk ds _ n'.2 h2)
end
/-! ### what a def gives back -/
abbrev RB (H : Hp) (Q : VK) (b : Bool) : Prop := ∀ H', Same H H' → Q (.bl b) H'
abbrev RI (H : Hp) (Q : VK) (n : Int) : Prop := ∀ H', Same H H' → Q (.int n) H'
abbrev RD (K : PySem.W.Frag) (H : Hp) (Q : VK) (d : PyData) : Prop := ∀ v H', Same H H' → Dp K H' v d → Q v H'
end PS

namespace PS
open PySem PySem.Spec PyProof.Rows L2
section
variable {X : Cx}
/-- an int or a truth as a number -/
def NumV (x : V) (i : Int) : Prop := x = .int i ∨ ∃ b : Bool, x = .bl b ∧ i = if b = true then 1 else 0
def rAddN : R2 := fun x y H Q => ∃ i j, NumV x i ∧ y = .int j ∧ Q (.int (i + j)) H
def rSubN : R2 := fun x y H Q => ∃ i j, NumV x i ∧ y = .int j ∧ Q (.int (i - j)) H
theorem op_addN : OpR X (binaryOp .Add) rAddN := by
  intro pins s σ H x y v u Q I rx ry h
  obtain ⟨i, j, n, rfl, q⟩ := h
  rcases n with rfl | ⟨b, rfl, rfl⟩
  · exact op_add pins s σ H _ _ v u Q I rx ry ⟨_, _, rfl, rfl, q⟩
  · cases rx
    obtain ⟨t, rfl⟩ := ry
    exact PySem.IntBool.add_bool_int ⟨.int _, H, I.tok _, ⟨_, rfl⟩, q⟩
theorem op_subN : OpR X (binaryOp .Sub) rSubN := by
  intro pins s σ H x y v u Q I rx ry h
  obtain ⟨i, j, n, rfl, q⟩ := h
  rcases n with rfl | ⟨b, rfl, rfl⟩
  · exact op_sub pins s σ H _ _ v u Q I rx ry ⟨_, _, rfl, rfl, q⟩
  · cases rx
    obtain ⟨t, rfl⟩ := ry
    exact PySem.IntBool.sub_bool_int ⟨.int _, H, I.tok _, ⟨_, rfl⟩, q⟩
theorem call_strN : CallR X (.type "str") (fun xs H Q => (∃ i : Int, xs = [.int i] ∧ i.natAbs.log2 < 1920 ∧ Q (.str (toString i)) H) ∨ ∃ b : Bool, xs = [.bl b] ∧ Q (.str (if b then "True" else "False")) H) := by
  intro pins s σ H xs us Q I r h
  rcases h with h | ⟨b, rfl, q⟩
  · exact call_str_int pins s σ H xs us Q I r h
  · obtain ⟨u, rfl, rx⟩ := vals1 r
    cases rx
    exact P.str_of_bool ⟨.str _, H, I.tok _, ⟨_, rfl⟩, q⟩
/-- two of one kind, one behind the other; a part of either -/
def rCatB (K : PySem.W.Frag) : R2 := fun x y H Q => rCatL K x y H Q ∨ rCatA K x y H Q ∨ rAddN x y H Q
theorem op_catB : OpR X (binaryOp .Add) (rCatB X.K) := by
  intro pins s σ H x y v u Q I rx ry h
  rcases h with h | h | h
  · exact op_catL pins s σ H x y v u Q I rx ry h
  · exact op_catA pins s σ H x y v u Q I rx ry h
  · exact op_addN pins s σ H x y v u Q I rx ry h
def rSlB (K : PySem.W.Frag) : V → Option Int → Option Int → Hp → VK → Prop := fun x lo hi H Q => rSlL K x lo hi H Q ∨ rSlA K x lo hi H Q
theorem sl_B : SlR X (rSlB X.K) := by
  intro pins s σ H x v vl vu lo hi sl Q I rx hs pl pu h
  rcases h with h | h
  · exact sl_list pins s σ H x v vl vu lo hi sl Q I rx hs pl pu h
  · exact sl_tupA pins s σ H x v vl vu lo hi sl Q I rx hs pl pu h
/-- isinstance(x, (tuple, list)), the classes' tuple laid just now -/
def isTL : PyData → Bool | .tuple _ => true | .list _ => true | _ => false
def rIsTL (K : PySem.W.Frag) : List V → Hp → VK → Prop := fun xs H Q => ∃ (x : V) (tp : Addr) (d : PyData), xs = [x, .ref tp] ∧ H tp = some (.tup [.ty "tuple", .ty "list"]) ∧ Dp K H x d ∧ Q (.bl (isTL d)) H
theorem call_isTL : CallR X (.builtin "isinstance") (rIsTL X.K) := by
  intro pins s σ H xs us Q I r h
  obtain ⟨x, tp, d, rfl, ht, hd, q⟩ := h
  refine call_isiT pins s σ H _ us Q I r ⟨x, tp, _, _, [.type "tuple", .type "list"], isTL d, rfl, ht, .cons (.ty _) (.cons (.ty _) .nil), dp_ty hd, ?_, q⟩
  have k1 : PySem.W.kitOne X.K (.type (tyN d)) (.type "tuple") = some (isT d) := by
    apply kit_ty
    cases d <;> simp only [tyN, isT] <;> decide +kernel
  have k2 : PySem.W.kitOne X.K (.type (tyN d)) (.type "list") = some (isL d) := by
    apply kit_ty
    cases d <;> simp only [tyN, isL] <;> decide +kernel
  refine kitAny_cons k1 (fun e => kitAny_cons k2 (fun e2 => ?_) (fun e2 => ?_)) (fun e => ?_)
  · rw [kitAny_nil]
    cases d <;> simp [isT, isL, isTL] at e e2 ⊢
  · cases d <;> simp [isL, isTL] at e2 ⊢
  · cases d <;> simp [isT, isTL] at e ⊢
end
/-! ### t[::-1] of a tuple -/
section
variable {prog : Program} {w : World} {A : Around} {E : Value → Shared → Prop} {s : Shared}
theorem rev_adjust (n : Nat) : Builtin.Slice.sliceAdjust none none (-1) (n : Int) = ((n : Int) - 1, -1) := by
  unfold Builtin.Slice.sliceAdjust
  simp
theorem rev_places (n : Nat) : Builtin.Slice.slicePlaces ((n : Int) - 1) (-1) (-1) = n := by
  unfold Builtin.Slice.slicePlaces
  simp
  by_cases h : n = 0
  · subst h; simp
  · rw [if_pos (by omega)]
    omega
theorem rev_applied {sl : Addr} {u : Tok} {n : Nat} {Q : Int × Int × Nat → Shared → Prop} (hs : s.heap.IsSliceOf sl .none .none (.int (-1) u)) (h : Q ((n : Int) - 1, -1, n) s) :
    wpAny (model prog w) A (Builtin.Slice.sliceApplied (.ref sl) (pure (n : Int))) Q E s := by
  obtain ⟨os, hos, hcs, hds⟩ := id hs
  unfold Builtin.Slice.sliceApplied Builtin.Slice.sliceFields
  refine wpAny_bind (wpAny_bind ?_)
  refine wpAny_field hos hds (x := .none) rfl (wpAny_bind ?_)
  refine wpAny_field hos hds (x := .none) rfl (wpAny_bind ?_)
  refine wpAny_field hos hds (x := .int (-1) u) rfl (wpAny_pure ?_)
  refine wpAny_bind (slicePart_int ?_)
  show wpAny _ _ (if ((-1 : Int) == 0) = true then _ else _) _ _ s
  rw [if_neg (by decide)]
  refine wpAny_bind (slicePart_none (wpAny_bind (slicePart_none (wpAny_bind (wpAny_pure ?_)))))
  show wpAny _ _ (match Builtin.Slice.sliceAdjust none none (-1) (n : Int) with | (lo, hi) => pure (lo, (-1 : Int), Builtin.Slice.slicePlaces lo hi (-1))) _ _ s
  rw [rev_adjust n]
  show wpAny _ _ (pure ((n : Int) - 1, (-1 : Int), Builtin.Slice.slicePlaces ((n : Int) - 1) (-1) (-1))) _ _ s
  rw [rev_places]
  exact wpAny_pure h
theorem rev_pick (xs : Array Value) : ((List.range xs.size).filterMap fun (m : Nat) => xs[((xs.size : Int) - 1 + (m : Int) * (-1)).toNat]?).toArray = xs.toList.reverse.toArray := by
  congr 1
  obtain ⟨l⟩ := xs
  simp only [List.size_toArray, List.getElem?_toArray]
  have e : (List.range l.length).filterMap (fun (m : Nat) => l[((l.length : Int) - 1 + (m : Int) * (-1)).toNat]?) = (List.range l.length).filterMap (fun m => l.reverse[m]?) := by
    have g : ∀ (ms : List Nat), (∀ m ∈ ms, m < l.length) → ms.filterMap (fun (m : Nat) => l[((l.length : Int) - 1 + (m : Int) * (-1)).toNat]?) = ms.filterMap (fun m => l.reverse[m]?) := by
      intro ms
      induction ms with
      | nil => intro _; rfl
      | cons m ms ih =>
        intro hm
        have hm' : m < l.length := hm m (by simp)
        rw [List.filterMap_cons, List.filterMap_cons, ih fun x hx => hm x (by simp [hx]), List.getElem?_reverse hm', show ((l.length : Int) - 1 + (m : Int) * (-1)).toNat = l.length - 1 - m from by omega]
    exact g _ fun m hm => List.mem_range.mp hm
  rw [e]
  have e2 : ∀ r : List Value, (List.range r.length).filterMap (fun m => r[m]?) = r := by
    intro r
    induction r with
    | nil => rfl
    | cons x r ih =>
      rw [List.length_cons, List.range_succ_eq_map, List.filterMap_cons]
      simp only [List.getElem?_cons_zero, List.filterMap_map]
      congr 1
  have := e2 l.reverse
  rw [List.length_reverse] at this
  exact this
theorem getItem_tuple_rev {t sl : Addr} {items : Array Value} {u : Tok} {Q : Value → Shared → Prop} (ht : IsTup s.heap t items) (hs : s.heap.IsSliceOf sl .none .none (.int (-1) u))
    (h : Q (.ref s.heap.objs.size) { s with heap := s.heap.push { cls := .type "tuple", data := .seq items.toList.reverse.toArray } }) (hsz : items.size ≤ sizeLine) : wpAny (model prog w) A (getItem (.ref t) (.ref sl)) Q E s := by
  have hr : sizeOk (.seq items.toList.reverse.toArray) := by
    show items.toList.reverse.toArray.size ≤ sizeLine
    simpa using hsz
  obtain ⟨os, hos, hcs, hds⟩ := id hs
  have hTs : s.TypeIs (.ref sl) "slice" := ⟨os, hos, hcs⟩
  unfold getItem
  try with_reducible refine wpAny_holding ?_
  first | skip | refine wpAny_bind (wpAny_pure ?_)
  refine wpAny_bind (wpAny_sequenceKey ht.typeIs (by decide) ?_)
  refine wpAny_bind (wpAny_callSpecial?_slot (name := Str.ofString "__getitem__") ht.typeIs PyProof.Rows.slot_tuple_getitem (wpAny_call_entry PyProof.Rows.slot_tuple_getitem ht.typeIs entry_tuple_getitem ?_ (args_tuple_getitem _ _)))
  show wpAny _ _ (Builtin.Tuple.tupleItemsOf (.ref t) >>= _) _ _ s
  refine wpAny_bind (tupleItemsOf_ ht ?_)
  refine wpAny_bind (wpAny_typeOf hTs ?_)
  rw [if_pos (by decide)]
  refine wpAny_bind (rev_applied hs ?_)
  show wpAny _ _ (if ((items.size : Int) - 1 == 0 && (-1 : Int) == 1 && items.size == items.size) = true then _ else _) _ _ s
  rw [if_neg (by simp), rev_pick]
  first
    | exact wpAny_bind (m := Builtin.Tuple.tupleExact _) (wpAny_newObj_type (wpAny_pure ⟨_, rfl, wpAny_pure h⟩) hr)
    | exact wpAny_bind (m := Builtin.Tuple.tupleExact _) (wpAny_newObj_type (wpAny_bind (wpAny_pure (wpAny_pure ⟨_, rfl, wpAny_pure h⟩))) hr)
    | exact wpAny_bind (wpAny_bind (m := Builtin.Tuple.tupleExact _) (wpAny_newObj_type (wpAny_pure (wpAny_pure ⟨_, rfl, wpAny_pure h⟩)) hr))
    | exact wpAny_bind (wpAny_bind (m := Builtin.Tuple.tupleExact _) (wpAny_newObj_type (wpAny_pure ⟨_, rfl, wpAny_pure h⟩) hr))
end
section
variable {X : Cx}
def tRevB (K : PySem.W.Frag) (te : TE) : TE := fun σ H Q => te σ H fun x H1 => (∃ a xs, x = .ref a ∧ SqL K H1 a xs ∧ ∀ p, H1 p = none → Q (.ref p) (upd H1 p (.lst xs.reverse))) ∨ ∃ a xs, x = .ref a ∧ SqT K H1 a xs ∧ ∀ p, H1 p = none → Q (.ref p) (upd H1 p (.tup xs.reverse))
theorem pe_revB {e : Expr} {te : TE} {k : Nat} {p1 p2 p3 pos : Pos} (he : PE X e te) : PE X (.Subscript e (.Slice none none (some (.UnaryOp .USub (.Constant (.int 1) k p1) p2)) p3) pos) (tRevB X.K te) := by
  constructor
  intro pins s σ H Q I h
  refine Subscript_ (thn (he.run pins s σ H _ I h) ?_)
  rintro v s1 ⟨x, H1, I1, r1, q1⟩
  have step : PO X (some (.UnaryOp .USub (.Constant (.int 1) k p1) p2)) (tPart (tUn (rU fun i => .int (-i)) (tC (.int 1)))) := po_some (pe_un un_neg pe_int)
  refine wpAny_Slice (thn (po_none.run pins s1 σ H1 (fun o H2 => o = none ∧ H2 = H1) I1 ⟨rfl, rfl⟩) ?_)
  rintro vl s2 ⟨l, H2, I2, pl, rfl, rfl⟩
  refine thn (po_none.run pins s2 σ H2 (fun o H3 => o = none ∧ H3 = H2) I2 ⟨rfl, rfl⟩) ?_
  rintro vu s3 ⟨u, H3, I3, pu, rfl, rfl⟩
  refine thn (step.run pins s3 σ H3 (fun o H4 => o = some (-1) ∧ H4 = H3) I3 ⟨1, rfl, -1, rfl, rfl, rfl⟩) ?_
  rintro vs s4 ⟨o, H4, I4, ps, rfl, rfl⟩
  have I5 := I4.kept (h' := s4.heap.push { cls := .type "slice", data := .fields #[vl, vu, vs] }) (t' := s4.toks) fun b ob q => Heap.get?_push_of_some _ q
  rcases q1 with ⟨a, xs, rfl, hx, q⟩ | ⟨a, xs, rfl, hx, q⟩
  · cases r1
    obtain ⟨its, r, ht, hz⟩ := I5.list hx
    have hlen := r.length
    refine tail_any (ops := [.ref a, .ref s4.heap.objs.size]) ht.isList.typeIs (PySem.slot_list_getitem.lookup) ?_ (by with_unfolding_all rfl)
    refine wpAny_getItem_list_slice ht.isList (Heap.IsSliceOf.new _ vl vu vs) pl pu ps (by decide) ?_ (by simp only [List.size_toArray]; omega)
    rw [PySem.W.krv_pick]
    have I6 := I5.laid (a := (s4.heap.push { cls := .type "slice", data := .fields #[vl, vu, vs] }).objs.size) (t' := s4.toks) (o := .lst xs.reverse) (fun b ob q => Heap.get?_push_of_some _ q) (Nat.le_refl _) ⟨by rw [List.length_reverse]; exact hz, _, 0, r.reverse, Heap.get?_push_size _ rfl⟩
    exact ⟨.ref _, _, I6, rfl, q _ (I5.hok.fresh (Nat.le_refl _))⟩
  · cases r1
    obtain ⟨its, r, ht, hz⟩ := I5.tuple hx
    have hlen := r.length
    cases pl
    cases pu
    cases ps
    rename_i tk
    refine tail_any (ops := [.ref a, .ref s4.heap.objs.size]) ht.typeIs (PyProof.Rows.slot_tuple_getitem.lookup) ?_ (by with_unfolding_all rfl)
    refine getItem_tuple_rev ht (Heap.IsSliceOf.new _ .none .none (.int (-1) tk)) ?_ (by simp only [List.size_toArray]; omega)
    have hg := Heap.get?_push_size (s4.heap.push { cls := .type "slice", data := .fields #[.none, .none, .int (-1) tk] }) (o := { cls := .type "tuple", data := .seq its.reverse.toArray }) rfl
    have I6 := I5.laid (a := (s4.heap.push { cls := .type "slice", data := .fields #[.none, .none, .int (-1) tk] }).objs.size) (t' := s4.toks) (o := .tup xs.reverse) (fun b ob q => Heap.get?_push_of_some _ q) (Nat.le_refl _) ⟨by rw [List.length_reverse]; exact hz, _, r.reverse, ⟨_, hg, rfl, _, rfl⟩⟩
    exact ⟨.ref _, _, I6, rfl, q _ (I5.hok.fresh (Nat.le_refl _))⟩
end
end PS

namespace PS
open PySem PySem.Spec PyProof.Rows L2
/-! ### l.count(x) of data -/
def rCountD (K : PySem.W.Frag) : V → List V → Hp → VK → Prop := fun x xs H Q => ∃ (a : Addr) (y : V) (d : PyData) (ds : List PyData), x = V.ref a ∧ xs = [y] ∧ Dp K H (V.ref a) (.list ds) ∧ Dp K H y d ∧
  SeqAt.shaped (.list ds) = true ∧ SeqAt.shaped d = true ∧ d.depth ≤ 60 ∧ Q (.int (ds.countP (fun z => PyData.eqv z d) : Nat)) H
theorem mt_lcountD {X : Cx} (hu : X.A.units + 64 < cLine) : MtR X "list.count" (rCountD X.K) := by
  intro pins s σ H x xs v us Q I rx rxs h
  obtain ⟨a, y, d, ds, rfl, rfl, hl, hy, sl, sd, d60, q⟩ := h
  cases rx
  cases rxs with
  | cons ry rt =>
    rename_i uy ut
    cases rt
    obtain ⟨bs, r1⟩ := Dp.reads I d y uy hy ry
    have hxs : PyData.canLayAll0 ds = true := SeqAt.canLay_of_shaped sl
    have hroom : X.A.units + 1 + min (PyData.depthAll ds) d.depth < cLine := by
      have := Nat.min_le_right (PyData.depthAll ds) d.depth
      omega
    cases hl with
    | lst hs ha =>
      obtain ⟨its, rv, ⟨⟨cls, dd, data, sls⟩, n, ho, hc, hdn, hdt⟩, hlen⟩ := I.list hs
      simp only at hc hdt
      subst hc hdt
      obtain ⟨as, h4⟩ := Dp.readsAll I ds _ its ha rv
      have hmap : its.map (SeqAt.readOf s.heap) = ds := SeqAt.readsAll_map ds its as hxs h4
      refine call_meets PySem.F.slot_list_count ⟨_, ho, rfl⟩ PySem.F.entry_list_count (PySem.F.args_list_count_2 _ _)
        (SeqAt.list_countAt a its.toArray n dd sls uy (fun u => PyData.eqv (SeqAt.readOf s.heap u) d)) ⟨ho, SeqAt.items_eqAt (vs := its.toArray) (show ReadsAll s.heap its.toArray.toList ds as from h4) r1 hxs (SeqAt.canLay_of_shaped sd) hroom, ?_⟩
      refine ⟨.int _, H, I.tok _, ⟨_, rfl⟩, ?_⟩
      rw [← hmap, List.countP_map] at q
      exact q
theorem canLay_iD : ∀ ns : List Int, PyData.canLayAll0 (iD ns) = true
  | [] => by simp [PyData.canLayAll0]
  | n :: ns => by
    show PyData.canLayAll0 (PyData.int n :: iD ns) = true
    simp [PyData.canLayAll0, PyData.canLay0]
    exact canLay_iD ns
theorem canLay_tI (ns : List Int) : (tI ns).canLay0 = true := by
  simp [PyData.canLay0]
  exact canLay_iD ns
theorem shaped_tI (ns : List Int) : SeqAt.shaped (tI ns) = true := by
  unfold SeqAt.shaped
  rw [canLay_tI, decide_eq_true (Nat.le_trans (depth_tI ns) (by decide))]
  rfl
theorem canLay_all : ∀ ds : List PyData, (∀ d ∈ ds, d.canLay0 = true) → PyData.canLayAll0 ds = true
  | [], _ => by simp [PyData.canLayAll0]
  | d :: ds, h => by
    simp only [PyData.canLayAll0, Bool.and_eq_true]
    exact ⟨h d (by simp), canLay_all ds fun x hx => h x (by simp [hx])⟩
theorem shaped_list {ds : List PyData} (h : ∀ d ∈ ds, d.canLay0 = true ∧ d.depth ≤ 63) : SeqAt.shaped (.list ds) = true := by
  unfold SeqAt.shaped
  have e1 : (PyData.list ds).canLay0 = true := by
    simp only [PyData.canLay0]
    exact canLay_all ds fun d hd => (h d hd).1
  have e2 : (PyData.list ds).depth ≤ 64 := by
    rw [PyData.depth]
    have := depthAll_le (n := 63) ds fun d hd => (h d hd).2
    omega
  rw [e1, decide_eq_true e2]
  rfl
end PS

namespace PS
open PySem PySem.Spec PyProof.Rows L2
/-! ### min(lists, key=len) -/
def tMinLen (K : PySem.W.Frag) (t : TA) : TE := fun σ H Q => t σ H fun vs H1 => ∃ (a : Addr) (xs : List V) (len : Nat → Nat), vs = [.ref a] ∧ SqL K H1 a xs ∧ 0 < xs.length ∧
  (∀ i v, xs[i]? = some v → ∃ c ys, v = .ref c ∧ SqL K H1 c ys ∧ ys.length = len i) ∧ ∀ i v, xs[i]? = some v → (∀ j, j < xs.length → len i ≤ len j) → Q v H1
theorem argBest_nat (num : Nat → Nat) : ∀ k, argBest (fun i j => decide ((num i : Int) < (num j : Int))) k ≤ k ∧ ∀ j, j ≤ k → num (argBest (fun i j => decide ((num i : Int) < (num j : Int))) k) ≤ num j
  | 0 => ⟨Nat.le_refl _, fun j hj => by
      have : j = 0 := by omega
      subst this; exact Nat.le_refl _⟩
  | k + 1 => by
    obtain ⟨h1, h2⟩ := argBest_nat num k
    simp only [argBest]
    by_cases hc : (num (k + 1) : Int) < (num (argBest (fun i j => decide ((num i : Int) < (num j : Int))) k) : Int)
    · rw [if_pos (decide_eq_true hc)]
      refine ⟨Nat.le_refl _, fun j hj => ?_⟩
      by_cases e : j = k + 1
      · subst e; exact Nat.le_refl _
      · have := h2 j (by omega)
        omega
    · rw [if_neg (by rw [decide_eq_false hc]; simp)]
      refine ⟨by omega, fun j hj => ?_⟩
      by_cases e : j = k + 1
      · subst e; omega
      · exact h2 j (by omega)
theorem call_minLen {X : Cx} (hc : X.calm = true) {pins : List (Addr × Obj)} {s : Shared} {σ : L2.St} {H : Hp} {Q : VK} (I : Inv X pins σ H s) {a : Addr} {xs : List V} {len : Nat → Nat} (hs : SqL X.K H a xs) (h0 : 0 < xs.length)
    (hl : ∀ i v, xs[i]? = some v → ∃ c ys, v = .ref c ∧ SqL X.K H c ys ∧ ys.length = len i) (q : ∀ i v, xs[i]? = some v → (∀ j, j < xs.length → len i ≤ len j) → Q v H) :
    wpAny (model X.prog X.w) X.A (call (.builtin "min") [.ref a] [(Str.ofString "key", .builtin "len")]) (EP X pins σ Q) X.xe s := by
  obtain ⟨its, rv, hil, _⟩ := I.list hs
  have hlen := rv.length
  refine call_min_walkKB (PySem.W.iter_listW (I.ok.hd hc) hil.isList fun s₂ e W st hfp hnew hold => ?_)
  refine ⟨_, _, _, _, _, _, _, fun s' => (∀ b o, s.heap.get? b = some o → s'.heap.get? b = some o) ∧ s'.gens = s.gens ∧ s'.drawn = s.drawn ∧ s'.os = s.os, fun i k _ => ∃ t, k = .int (len i : Nat) t, fun i j => decide ((len i : Int) < (len j : Int)), rfl, W, st, hfp, by simp; omega, ⟨?_, ?_, ?_, ?_⟩, ?_, ?_⟩
  · intro s1 s2 hJ hM
    refine ⟨fun b o hb => hM.heap b o (fun hm => ?_) (hJ.1 b o hb), ?_, hM.drawn.trans hJ.2.2.1, hM.os.trans hJ.2.2.2⟩
    · rcases List.mem_cons.mp hm with z | z
      · have hb' := Heap.lt_size (hold b o hb)
        rw [z] at hb'
        exact Nat.lt_irrefl _ hb'
      · exact hnew b o hb z
    · have := hM.gens
      exact this.trans hJ.2.1
  · intro i k s1 s2 hV _
    exact hV
  · intro i v s1 o Q1 E1 hi hP hJ hst hS hQ
    have hv : its[i]? = some v := by simpa using hP
    have hi' : i < its.length := (List.getElem?_eq_some_iff.mp hv).1
    have hx : xs[i]? = some xs[i] := List.getElem?_eq_getElem (by omega)
    obtain ⟨u, hu, ru⟩ := rv.get hx
    rw [hv] at hu
    cases Option.some.inj hu
    obtain ⟨c, ys, ec, hsc, hyl⟩ := hl i _ hx
    rw [ec] at ru
    cases ru
    obtain ⟨cits, cr, ⟨co, cn, ho, hcc, hcd, hcs⟩, hz⟩ := I.list hsc
    have hcl := cr.length
    have hil' : s1.heap.IsList c cits.toArray := ⟨co, hJ.1 _ _ ho, hcc, cn, hcs⟩
    have hn := line63
    have hsz := sizeLine_eq
    refine Calls.call_len_list hil' (by simp only [List.size_toArray]; omega) ?_
    refine hQ _ _ ⟨hJ.1, hJ.2.1, hJ.2.2.1, hJ.2.2.2⟩ ?_ hS ⟨s1.toks + 1, ?_⟩ (fun _ _ h => h)
    · exact W.frame (i + 1) s1 s1.heap _ hst (by omega) fun b _ o e => e
    · rw [List.size_toArray, ← hcl, hyl]
  · intro i j ki kj s1 Q1 E1 hJ hi hj hq
    obtain ⟨t, rfl⟩ := hi
    obtain ⟨u, rfl⟩ := hj
    exact richCompare_gives (op := .Lt) (typeIs_int s1 _ t) (typeIs_int s1 _ u) F.slot_int_lt F.entry_int_lt (F.args_int_lt_2 _ _) (gives_int_lt _ _ t u) (fun x => nomatch x) hq
  · subst e
    exact ⟨hold, rfl, rfl, rfl⟩
  · intro v s' hP hJ
    have hb := argBest_nat len (its.toArray.size - 1)
    have hits : its.toArray.size = its.length := by simp
    have hP' : its[argBest (fun i j => decide ((len i : Int) < (len j : Int))) (its.toArray.size - 1)]? = some v := by simpa using hP
    have hidx : argBest (fun i j => decide ((len i : Int) < (len j : Int))) (its.toArray.size - 1) < xs.length := by
      have := (List.getElem?_eq_some_iff.mp hP').1
      omega
    have hx := List.getElem?_eq_getElem hidx
    obtain ⟨u, hu, ru⟩ := rv.get hx
    rw [hP'] at hu
    cases Option.some.inj hu
    have hs' : s' = { s with heap := s'.heap, toks := s'.toks } := by
      obtain ⟨h1, h2, h3, h4⟩ := hJ
      cases s'
      cases s
      simp only at h2 h3 h4
      subst h2 h3 h4
      rfl
    rw [hs']
    exact ⟨_, H, I.kept hJ.1, ru, q _ _ hx fun j hj => hb.2 j (by omega)⟩
theorem pe_minLen {X : Cx} {e : Expr} {t : TA} {p p2 kp pos : Pos} (hc : X.calm = true) (hg : Gl X "min") (hm : X.mg "min" = none) (hgl : Gl X "len") (hml : X.mg "len" = none) (ha : PA X [e] t)
    (he : backTo pos (starEach [e] X.env) = (false, eval e X.env) :: backTo pos (starEach [] X.env) := by rfl) (hpl : (backTo pos (starEach [e] X.env)).any (·.1) = false := by rfl) :
    PE X (.Call (.Name "min" p) [e] [⟨some "key", .Name "len" p2, kp⟩] pos) (tMinLen X.K t) := by
  refine ⟨fun pins s σ H Q I h => ?_⟩
  refine wpAny_Call_Name_kw (ld_blt I hg hm PyProof.Rows.boot_min ?_)
  refine PyProof.Rows.callWith_kw (thn (ha.run pos pins s σ H _ I h) ?_) he hpl rfl rfl
  rintro us s1 ⟨vs, H1, I1, r1, a, xs, len, rfl, hs, h0, hl, q⟩
  rw [Vals.ref1 r1]
  show wpAny _ _ (evalAll [do let v ← eval (.Name "len" p2) X.env; standAt pos; pure v]) _ _ s1
  refine wpAny_evalAll_cons (wpAny_bind (ld_blt I1 hgl hml PySem.boot_len (wpAny_bind (wpAny_standAt (wpAny_pure ?_)))))
  exact wpAny_evalAll_nil (call_minLen hc I1 hs h0 hl q)
end PS

namespace PS
open PySem PySem.Spec PyProof.Rows L2
theorem tuple_mul1 (l : Addr) (items : Array Value) (n : Nat) (dd : Option Addr) (sl : Array (Option Value)) (u : Tok) :
    Meets (Builtin.«tuple.__mul__» ⟨[.ref l, .int 1 u], []⟩) (fun _ R s => s.heap.get? l = some { cls := .type "tuple", dict := dd, data := .seq items n, slots := sl } ∧
      R (.ok (.ret (Value.ref l))) s) :=
  .of_wp fun prog w A R s h => by
    obtain ⟨hp, g, d, tk, os⟩ := s
    obtain ⟨hl, h⟩ := h
    have f1 := AutoSeq1.idx_int
    have c0 : (decide ((1 : Int) < -(2 ^ 63)) || decide ((1 : Int) ≥ 2 ^ 63)) = false := by decide
    have c1 : (items.isEmpty || (1 : Int) == 1) = true := by simp
    wp_walk using wpAny_loadPart' hl
    repeat (first
      | (refine wpAny_ite_false (decide_eq_false (by rw [c0]; exact Bool.false_ne_true)) ?_; wp_walk using wpAny_loadPart' hl)
      | (refine wpAny_ite_true (decide_eq_true c1) ?_; wp_walk using wpAny_loadPart' hl))
    exact ⟨_, rfl, h⟩
def rRepA (K : PySem.W.Frag) : R2 := fun x y H Q => ∃ l k xs, x = .ref l ∧ y = .int k ∧ SqT K H l xs ∧ xs ≠ [] ∧ 1 ≤ k ∧ k ≤ 1000 ∧ xs.length ≤ 1000 ∧ (k = 1 → Q (.ref l) H) ∧ ∀ p, H p = none → Q (.ref p) (upd H p (.tup (List.replicate k.toNat xs).flatten))
theorem op_repA {X : Cx} : OpR X (binaryOp .Mult) (rRepA X.K) := by
  intro pins s σ H x y v u Q I rx ry h
  obtain ⟨l, k, xs, rfl, rfl, hT, hne, h1, h2, hz, q1, q⟩ := h
  by_cases c : 2 ≤ k
  · exact op_repT pins s σ H _ _ v u Q I rx ry ⟨l, k, xs, rfl, rfl, hT, hne, c, h2, hz, q⟩
  · have ek : k = 1 := by omega
    subst ek
    cases rx
    obtain ⟨t, rfl⟩ := ry
    obtain ⟨its, r, ⟨⟨cls, dd, data, sl⟩, ho, hc, n, hd⟩, hs⟩ := I.tuple hT
    simp only at hc hd
    subst hc hd
    refine wpAny_binaryOp_repeat_ref (T := "tuple") (U := "int") (by decide) ⟨_, ho, rfl⟩ (fun s' => typeIs_int s' 1 t) noFill_tuple_mul F.fills_int_mul F.slot_int_rmul repeat_tuple F.slot_int_index.lookup
      (call_meets F.slot_int_rmul (typeIs_int s 1 t) F.entry_int_rmul (F.args_int_rmul_2 _ _) (int_rmul_tuple 1 t l its.toArray n dd sl)
        ⟨ho, rfl, ⟨_, ho, rfl⟩, call_meets F.slot_tuple_mul ⟨_, ho, rfl⟩ F.entry_tuple_mul (F.args_tuple_mul_2 _ _) (tuple_mul1 l its.toArray n dd sl t) ⟨ho, ?_⟩⟩)
    exact ⟨.ref l, H, I, rfl, q1 rfl⟩
end PS

namespace PS
open PySem PySem.Spec PyProof.Rows L2
/-! ### what the defs tell, over data -/
def within (d : PyData) (lo hi : Int) : Bool := match d with
  | .int i => if lo ≤ i then decide (i ≤ hi) else false
  | _ => false
def tupOf (d : PyData) (n : Int) : Bool := match d with
  | .tuple ds => decide ((ds.length : Int) = n)
  | _ => false
def areBlocks (d : PyData) : Bool := match d with
  | .tuple ds => if 1 ≤ (ds.length : Int) ∧ (ds.length : Int) ≤ 8 then ds.all (fun x => within x 1 50) else false
  | _ => false
def intOf : PyData → Int
  | .int i => i
  | _ => 0
def isShelf (d : PyData) : Bool := match d with
  | .tuple [r, .tuple bs] => if areBlocks (.tuple bs) = true then within r (bs.map intOf).sum ((bs.map intOf).sum + 400) else false
  | _ => false
theorem within_ints : ∀ {ds : List PyData} {lo hi : Int}, ds.all (fun x => within x lo hi) = true → ∃ ns : List Int, ds = iD ns ∧ ∀ n ∈ ns, lo ≤ n ∧ n ≤ hi
  | [], _, _, _ => ⟨[], rfl, by simp⟩
  | d :: ds, lo, hi, h => by
    rw [List.all_cons, Bool.and_eq_true] at h
    obtain ⟨ns, e, q⟩ := within_ints h.2
    cases d with
    | int i =>
      have h1 := h.1
      unfold within at h1
      simp only at h1
      by_cases hl : lo ≤ i
      · rw [if_pos hl] at h1
        have h2 := of_decide_eq_true h1
        exact ⟨i :: ns, by rw [e]; rfl, fun n hn => by
          rcases List.mem_cons.mp hn with rfl | hn
          · exact ⟨hl, h2⟩
          · exact q n hn⟩
      · rw [if_neg hl] at h1; cases h1
    | _ => simp [within] at h
theorem intOf_iD : ∀ ns : List Int, (iD ns).map intOf = ns
  | [] => rfl
  | n :: ns => by
    show n :: (iD ns).map intOf = n :: ns
    rw [intOf_iD ns]
/-- a shelf -/
abbrev shD (room : Int) (ls : List Int) : PyData := .tuple [.int room, tI ls]
structure ShOk (room : Int) (ls : List Int) : Prop where
  n1 : 1 ≤ ls.length
  n8 : ls.length ≤ 8
  l1 : ∀ l ∈ ls, 1 ≤ l ∧ l ≤ 50
  lo : ls.sum ≤ room
  hi : room ≤ ls.sum + 400
theorem areBlocks_ints {ds : List PyData} (h : areBlocks (.tuple ds) = true) : ∃ ls : List Int, ds = iD ls ∧ 1 ≤ ls.length ∧ ls.length ≤ 8 ∧ ∀ l ∈ ls, 1 ≤ l ∧ l ≤ 50 := by
  unfold areBlocks at h
  simp only at h
  split at h
  · rename_i hc
    obtain ⟨ls, rfl, q⟩ := within_ints h
    rw [List.length_map] at hc
    exact ⟨ls, rfl, by omega, by omega, q⟩
  · cases h
theorem all_within {ls : List Int} {lo hi : Int} (h : ∀ l ∈ ls, lo ≤ l ∧ l ≤ hi) : (iD ls).all (fun x => within x lo hi) = true := by
  rw [List.all_eq_true]
  intro x hx
  obtain ⟨l, hl, rfl⟩ := List.mem_map.mp hx
  unfold within
  simp only
  rw [if_pos (h l hl).1]
  exact decide_eq_true (h l hl).2
theorem areBlocks_ok {ls : List Int} (h1 : 1 ≤ ls.length) (h8 : ls.length ≤ 8) (h : ∀ l ∈ ls, 1 ≤ l ∧ l ≤ 50) : areBlocks (tI ls) = true := by
  unfold areBlocks
  simp only
  rw [if_pos ⟨by rw [List.length_map]; omega, by rw [List.length_map]; omega⟩]
  exact all_within h
theorem isShelf_ok {room : Int} {ls : List Int} (h : ShOk room ls) : isShelf (shD room ls) = true := by
  unfold isShelf
  simp only
  rw [if_pos (areBlocks_ok h.n1 h.n8 h.l1), intOf_iD]
  unfold within
  simp only
  rw [if_pos h.lo]
  exact decide_eq_true h.hi
end PS

namespace PS
open PySem PySem.Spec PyProof.Rows L2
/-! ### slices, walks -/
theorem cut_to (xs : List V) (k : Nat) : cutV xs none (some (k : Int)) = xs.take k := by
  unfold cutV
  rw [HT.sIx_none, HT.sIx_nat, List.drop_zero, Nat.sub_zero]
  by_cases h : k ≤ xs.length
  · rw [Nat.min_eq_left h]
  · rw [Nat.min_eq_right (by omega), List.take_length, List.take_of_length_le (by omega)]
theorem cut_from (xs : List V) (k : Nat) : cutV xs (some (k : Int)) none = xs.drop k := by
  unfold cutV
  rw [HT.sIx_none, HT.sIx_nat]
  by_cases h : k ≤ xs.length
  · rw [Nat.min_eq_left h, List.take_of_length_le (by rw [List.length_drop]; omega)]
  · rw [Nat.min_eq_right (by omega), Nat.sub_self, List.take_zero, List.drop_of_length_le (by omega)]
/-- t[:k] of a tuple, whatever it is -/
theorem slT_to {K : PySem.W.Frag} {H : Hp} {Q : VK} {a : Addr} {xs : List V} {k : Nat} (s : SqT K H a xs) (q : ∀ p H', Same H H' → SqT K H' p (xs.take k) → Q (.ref p) H') : rSlA K (.ref a) none (some (k : Int)) H Q := by
  refine ⟨a, xs, rfl, s, fun h => ?_, fun h p np => ?_⟩
  · have e : xs.take k = xs := List.take_of_length_le (by
      have := h.2
      rw [HT.sIx_nat] at this
      omega)
    exact q a H (Same.refl H) (by rw [e]; exact s)
  · rw [cut_to]
    exact q p _ (same_new np) (.inl (.inl upd_same))
theorem slT_from {K : PySem.W.Frag} {H : Hp} {Q : VK} {a : Addr} {xs : List V} {k : Nat} (s : SqT K H a xs) (q : ∀ p H', Same H H' → SqT K H' p (xs.drop k) → Q (.ref p) H') : rSlA K (.ref a) (some (k : Int)) none H Q := by
  refine ⟨a, xs, rfl, s, fun h => ?_, fun h p np => ?_⟩
  · have e : xs.drop k = xs := by
      have := h.1
      rw [HT.sIx_nat] at this
      by_cases hk : k = 0
      · subst hk; rfl
      · have : xs.length = 0 := by omega
        rw [List.length_eq_zero_iff.mp this]; simp
    exact q a H (Same.refl H) (by rw [e]; exact s)
  · rw [cut_from]
    exact q p _ (same_new np) (.inl (.inl upd_same))
theorem walk_2 {b1 b2 : Bool} {K : PySem.W.Frag} {a1 a2 : Addr} {xs ys : List V} {n : Nat} (hn : n = min xs.length ys.length) :
    Walk (It2 b1 b2 K a1 a2) n (fun H => SqK b1 K H a1 xs ∧ SqK b2 K H a2 ys) (fun i H v H' => ∃ T x y, v = .ref T ∧ H T = none ∧ H' = upd H T (.tup [x, y]) ∧ xs[i]? = some x ∧ ys[i]? = some y) where
  goes := fun i H hi g => ⟨xs, ys, xs[i], ys[i], g.1, g.2, List.getElem?_eq_getElem (by omega), List.getElem?_eq_getElem (by omega)⟩
  stops := fun H g => ⟨xs, ys, g.1, g.2, hn⟩
  yields := fun i H x H' hi g y => by
    obtain ⟨T, x, y, rfl, nT, rfl, f1, f2⟩ := y
    exact ⟨T, x, y, rfl, nT, rfl, f1 xs g.1, f2 ys g.2⟩
theorem walk_3 {b1 b2 b3 : Bool} {K : PySem.W.Frag} {a1 a2 a3 : Addr} {xs ys zs : List V} {n : Nat} (hn : n = min (min xs.length ys.length) zs.length) :
    Walk (It3 b1 b2 b3 K a1 a2 a3) n (fun H => SqK b1 K H a1 xs ∧ SqK b2 K H a2 ys ∧ SqK b3 K H a3 zs) (fun i H v H' => ∃ T x y z, v = .ref T ∧ H T = none ∧ H' = upd H T (.tup [x, y, z]) ∧ xs[i]? = some x ∧ ys[i]? = some y ∧ zs[i]? = some z) where
  goes := fun i H hi g => ⟨xs, ys, zs, xs[i], ys[i], zs[i], g.1, g.2.1, g.2.2, List.getElem?_eq_getElem (by omega), List.getElem?_eq_getElem (by omega), List.getElem?_eq_getElem (by omega)⟩
  stops := fun H g => ⟨xs, ys, zs, g.1, g.2.1, g.2.2, hn⟩
  yields := fun i H x H' hi g y => by
    obtain ⟨T, x, y, z, rfl, nT, rfl, f1, f2, f3⟩ := y
    exact ⟨T, x, y, z, rfl, nT, rfl, f1 xs g.1, f2 ys g.2.1, f3 zs g.2.2⟩
theorem walk_1 {b : Bool} {K : PySem.W.Frag} {a : Addr} {xs : List V} {n : Nat} (hn : n = xs.length) :
    Walk (It1 b K a) n (fun H => SqK b K H a xs) (fun i H v H' => ∃ T x, v = .ref T ∧ H T = none ∧ H' = upd H T (.tup [.int (i : Nat), x]) ∧ xs[i]? = some x) where
  goes := fun i H hi g => ⟨xs, xs[i], g, List.getElem?_eq_getElem (by omega)⟩
  stops := fun H g => ⟨xs, g, hn⟩
  yields := fun i H x H' hi g y => by
    obtain ⟨T, x, rfl, nT, rfl, f⟩ := y
    exact ⟨T, x, rfl, nT, rfl, f xs g⟩
theorem ixN_at {n j : Nat} {z : Int} (e : z = (j : Int)) (h : j < n) : ixN n z = some j := by
  subst e
  unfold ixN
  rw [if_pos (by omega), if_pos (by omega)]
  simp
theorem iV_get {ns : List Int} {j : Nat} {v : Int} (h : ns[j]? = some v) : (iV ns)[j]? = some (.int v) := by
  rw [List.getElem?_map, h]
  rfl
theorem iV_set (ns : List Int) (j : Nat) (v : Int) : (iV ns).set j (.int v) = iV (ns.set j v) := List.map_set.symm
theorem iV_len (ns : List Int) : (iV ns).length = ns.length := List.length_map ..
/-! ### stands by their places -/
def pre (ls : List Int) (j : Nat) : Int := (ls.take j).sum
def stL (ls : List Int) (y : Nat → Int) : List Int := (List.range ls.length).map fun j => y j + pre ls j
structure Rise (n : Nat) (pl : Int) (y : Nat → Int) : Prop where
  lo : ∀ j, j < n → 0 ≤ y j
  hi : ∀ j, j < n → y j ≤ pl
  up : ∀ j, j + 1 < n → y j ≤ y (j + 1)
theorem pre_zero (ls : List Int) : pre ls 0 = 0 := by simp [pre]
theorem pre_succ {ls : List Int} {j : Nat} (h : j < ls.length) : pre ls (j + 1) = pre ls j + ls[j] := by
  unfold pre
  exact L2.sum_take (List.getElem?_eq_getElem h)
theorem pre_all (ls : List Int) {j : Nat} (h : ls.length ≤ j) : pre ls j = ls.sum := by
  unfold pre
  rw [List.take_of_length_le h]
theorem stL_len (ls : List Int) (y : Nat → Int) : (stL ls y).length = ls.length := by simp [stL]
theorem stL_get {ls : List Int} {y : Nat → Int} {j : Nat} (h : j < ls.length) : (stL ls y)[j]? = some (y j + pre ls j) := by
  simp [stL, h]
theorem stL_congr {ls : List Int} {y z : Nat → Int} (h : ∀ j, j < ls.length → y j = z j) : stL ls y = stL ls z := by
  apply List.ext_getElem?
  intro j
  by_cases hj : j < ls.length
  · rw [stL_get hj, stL_get hj, h j hj]
  · rw [List.getElem?_eq_none (by rw [stL_len]; omega), List.getElem?_eq_none (by rw [stL_len]; omega)]
theorem stL_inj {ls : List Int} {y z : Nat → Int} (h : stL ls y = stL ls z) : ∀ j, j < ls.length → y j = z j := fun j hj => by
  have e := congrArg (fun l : List Int => l[j]?) h
  simp only [stL_get hj] at e
  have := Option.some.inj e
  omega
theorem stL_set {ls : List Int} {y : Nat → Int} {k : Nat} {v : Int} (h : k < ls.length) : (stL ls y).set k v = stL ls (fun j => if j = k then v - pre ls k else y j) := by
  apply List.ext_getElem?
  intro j
  by_cases hj : j < ls.length
  · rw [stL_get hj, List.getElem?_set, stL_len]
    by_cases e : k = j
    · subst e
      rw [if_pos rfl, if_pos h, if_pos rfl]
      congr 1
      omega
    · rw [if_neg e, stL_get hj, if_neg (Ne.symm e)]
  · rw [List.getElem?_eq_none (by rw [List.length_set, stL_len]; omega), List.getElem?_eq_none (by rw [stL_len]; omega)]
def pR (g : Nat) (b : Int) (y : Nat → Int) : Nat → Int := fun j => if g ≤ j then max (y j) b else y j
def pL (g : Nat) (b : Int) (y : Nat → Int) : Nat → Int := fun j => if j < g then min (y j) b else y j
theorem pR_rise {n g : Nat} {pl b : Int} {y : Nat → Int} (h : Rise n pl y) (b0 : 0 ≤ b) (b1 : b ≤ pl) : Rise n pl (pR g b y) where
  lo := fun j hj => by
    have := h.lo j hj
    unfold pR; split <;> omega
  hi := fun j hj => by
    have := h.hi j hj
    unfold pR; split <;> omega
  up := fun j hj => by
    have := h.up j hj
    unfold pR; split <;> split <;> omega
theorem pL_rise {n g : Nat} {pl b : Int} {y : Nat → Int} (h : Rise n pl y) (b0 : 0 ≤ b) (b1 : b ≤ pl) : Rise n pl (pL g b y) where
  lo := fun j hj => by
    have := h.lo j hj
    unfold pL; split <;> omega
  hi := fun j hj => by
    have := h.hi j hj
    unfold pL; split <;> omega
  up := fun j hj => by
    have := h.up j hj
    unfold pL; split <;> split <;> omega
/-! ### is it a stand -/
def standG (room : Int) : Int → List PyData → List Int → Bool
  | e, d :: ds, l :: ls => match d with
    | .int i => if i < e then false else standG room (i + l) ds ls
    | _ => false
  | e, _, _ => decide (e ≤ room)
def isStand (room : Int) (ls : List Int) (d : PyData) : Bool := match d with
  | .tuple ds => if (ds.length : Int) = ls.length then standG room 0 ds ls else false
  | _ => false
theorem standG_ok {room : Int} {ls : List Int} {y : Nat → Int} (h : Rise ls.length (room - ls.sum) y) : ∀ (m k : Nat) (e : Int), m + k = ls.length → (k < ls.length → e ≤ y k + pre ls k) → (k = ls.length → e ≤ room) → standG room e ((iD (stL ls y)).drop k) (ls.drop k) = true
  | 0, k, e, hk, _, h2 => by
    rw [List.drop_of_length_le (by rw [List.length_map, stL_len]; omega), List.drop_of_length_le (by omega)]
    exact decide_eq_true (h2 (by omega))
  | m + 1, k, e, hk, h1, h2 => by
    have hlt : k < ls.length := by omega
    have e1 : (iD (stL ls y))[k]? = some (.int (y k + pre ls k)) := by
      rw [List.getElem?_map, stL_get hlt]
      rfl
    have hl : k < (iD (stL ls y)).length := by rw [List.length_map, stL_len]; exact hlt
    rw [List.drop_eq_getElem_cons hl, List.drop_eq_getElem_cons hlt]
    rw [List.getElem?_eq_getElem hl] at e1
    rw [Option.some.inj e1]
    unfold standG
    simp only
    rw [if_neg (by have := h1 hlt; omega)]
    have hp := pre_succ hlt
    refine standG_ok h m (k + 1) _ (by omega) (fun hq => ?_) (fun hq => ?_)
    · have := h.up k hq
      omega
    · have := h.hi k hlt
      have := pre_all ls (j := k + 1) (by omega)
      omega
theorem isStand_ok {room : Int} {ls : List Int} {y : Nat → Int} (h : Rise ls.length (room - ls.sum) y) (h0 : ls.sum ≤ room) : isStand room ls (tI (stL ls y)) = true := by
  unfold isStand
  simp only
  rw [if_pos (by rw [List.length_map, stL_len])]
  have := standG_ok h ls.length 0 0 (by omega) (fun hq => by
    have := h.lo 0 hq
    rw [pre_zero]
    omega) (fun hq => by
      have : ls = [] := List.length_eq_zero_iff.mp hq.symm
      subst this
      simpa using h0)
  simpa using this
/-! ### pushes, rows -/
/-- right or left, the gap, the place less the gap's length -/
abbrev Push := Bool × Nat × Int
def sideS (r : Bool) : Str := if r = true then "right" else "left"
def puD (ls : List Int) (p : Push) : PyData := .tuple [.str (sideS p.1), .int p.2.1, .int (p.2.2 + pre ls p.2.1)]
def roD (ls : List Int) (r : List Push) : PyData := .list (r.map (puD ls))
structure PuOk (n : Nat) (pl : Int) (p : Push) : Prop where
  g0 : p.1 = true → p.2.1 < n
  g1 : p.1 = false → 1 ≤ p.2.1 ∧ p.2.1 ≤ n
  b0 : 0 ≤ p.2.2
  b1 : p.2.2 ≤ pl
def doP (y : Nat → Int) (p : Push) : Nat → Int := if p.1 = true then pR p.2.1 p.2.2 y else pL p.2.1 p.2.2 y
def doR (y : Nat → Int) (r : List Push) : Nat → Int := r.foldl doP y
theorem doP_rise {n : Nat} {pl : Int} {y : Nat → Int} {p : Push} (h : Rise n pl y) (k : PuOk n pl p) : Rise n pl (doP y p) := by
  unfold doP
  split
  · exact pR_rise h k.b0 k.b1
  · exact pL_rise h k.b0 k.b1
theorem doR_rise {n : Nat} {pl : Int} : ∀ {r : List Push} {y : Nat → Int}, Rise n pl y → (∀ p ∈ r, PuOk n pl p) → Rise n pl (doR y r)
  | [], y, h, _ => h
  | p :: r, y, h, k => doR_rise (r := r) (doP_rise h (k p (by simp))) fun q hq => k q (by simp [hq])
theorem doR_app (y : Nat → Int) (r s : List Push) : doR y (r ++ s) = doR (doR y r) s := by simp [doR, List.foldl_append]
def isGap (n : Int) (s g : PyData) : Bool := if PyData.eqv s (.str "right") = true then within g 0 (n - 1) else if PyData.eqv s (.str "left") = true then within g 1 n else false
def isPush (room : Int) (ls : List Int) (d : PyData) : Bool := match d with
  | .tuple [s, g, p] => if isGap ls.length s g = true then within p (pre ls (intOf g).toNat) (pre ls (intOf g).toNat + (room - ls.sum)) else false
  | _ => false
def isRow (room : Int) (ls : List Int) (d : PyData) : Bool := match d with
  | .list ds => if (ds.length : Int) > 200 then false else ds.all (isPush room ls)
  | _ => false
theorem within_ok {i lo hi : Int} (h1 : lo ≤ i) (h2 : i ≤ hi) : within (.int i) lo hi = true := by
  unfold within
  simp only
  rw [if_pos h1]
  exact decide_eq_true h2
theorem isPush_ok {room : Int} {ls : List Int} {p : Push} (h : PuOk ls.length (room - ls.sum) p) : isPush room ls (puD ls p) = true := by
  obtain ⟨r, g, b⟩ := p
  obtain ⟨g0, g1, b0, b1⟩ := h
  simp only at g0 g1 b0 b1
  unfold isPush puD
  simp only
  have hg : isGap ls.length (.str (sideS r)) (.int (g : Int)) = true := by
    unfold isGap
    cases r with
    | true =>
      have := g0 rfl
      rw [if_pos (by decide +kernel)]
      exact within_ok (by omega) (by omega)
    | false =>
      have := g1 rfl
      rw [if_neg (by decide +kernel), if_pos (by decide +kernel)]
      exact within_ok (by omega) (by omega)
  rw [if_pos hg]
  exact within_ok (by simp [intOf]; omega) (by simp [intOf]; omega)
theorem isRow_ok {room : Int} {ls : List Int} {r : List Push} (hl : r.length ≤ 200) (h : ∀ p ∈ r, PuOk ls.length (room - ls.sum) p) : isRow room ls (roD ls r) = true := by
  unfold isRow roD
  simp only
  rw [if_neg (by rw [List.length_map]; omega), List.all_eq_true]
  intro d hd
  obtain ⟨p, hp, rfl⟩ := List.mem_map.mp hd
  exact isPush_ok (h p hp)
theorem puD_depth (ls : List Int) (p : Push) : (puD ls p).depth ≤ 1 := by
  unfold puD
  simp [PyData.depth, PyData.depthAll]
theorem noL_puD (ls : List Int) (p : Push) : noL (puD ls p) = true := rfl
end PS

namespace PS
open PySem PySem.Spec PyProof.Rows L2
/-! ### what a row does to one block -/
def clamp (l h x : Int) : Int := min (max x l) h
/-- one push at the j-th block -/
def act (j : Nat) (x : Int) (p : Push) : Int := if p.1 = true then (if p.2.1 ≤ j then max x p.2.2 else x) else (if j < p.2.1 then min x p.2.2 else x)
theorem doP_at (y : Nat → Int) (p : Push) (j : Nat) : doP y p j = act j (y j) p := by
  unfold doP act
  split <;> rfl
theorem doR_at : ∀ (r : List Push) (y : Nat → Int) (j : Nat), doR y r j = r.foldl (act j) (y j)
  | [], y, j => rfl
  | p :: r, y, j => by
    show doR (doP y p) r j = r.foldl (act j) (act j (y j) p)
    rw [doR_at r, doP_at]
theorem act_mono {j : Nat} {x z : Int} (h : x ≤ z) (p : Push) : act j x p ≤ act j z p := by
  unfold act
  split <;> split <;> omega
theorem fold_mono {j : Nat} : ∀ (r : List Push) {x z : Int}, x ≤ z → r.foldl (act j) x ≤ r.foldl (act j) z
  | [], x, z, h => h
  | p :: r, x, z, h => fold_mono r (act_mono h p)
theorem act_in {j : Nat} {x pl : Int} {p : Push} (b0 : 0 ≤ p.2.2) (b1 : p.2.2 ≤ pl) (h0 : 0 ≤ x) (h1 : x ≤ pl) : 0 ≤ act j x p ∧ act j x p ≤ pl := by
  unfold act
  split <;> split <;> omega
theorem fold_clamp {j : Nat} {pl : Int} (hp : 0 ≤ pl) : ∀ (r : List Push), (∀ p ∈ r, 0 ≤ p.2.2 ∧ p.2.2 ≤ pl) → ∀ x, 0 ≤ x → x ≤ pl → r.foldl (act j) x = clamp (r.foldl (act j) 0) (r.foldl (act j) pl) x
  | [], _, x, h0, h1 => by
    show x = min (max x 0) pl
    omega
  | p :: r, hb, x, h0, h1 => by
    have hp1 := hb p (by simp)
    have ih := fold_clamp (j := j) hp r fun q hq => hb q (by simp [hq])
    have m := fold_mono (j := j) r hp
    have a1 := act_in (j := j) hp1.1 hp1.2 h0 h1
    have a2 := act_in (j := j) hp1.1 hp1.2 (Int.le_refl 0) hp
    have a3 := act_in (j := j) hp1.1 hp1.2 hp (Int.le_refl pl)
    show r.foldl (act j) (act j x p) = clamp (r.foldl (act j) (act j 0 p)) (r.foldl (act j) (act j pl p)) x
    rw [ih _ a1.1 a1.2, ih _ a2.1 a2.2, ih _ a3.1 a3.2]
    generalize r.foldl (act j) 0 = l at m ⊢
    generalize r.foldl (act j) pl = h at m ⊢
    unfold clamp act
    split <;> split <;> omega
def loR (r : List Push) : Nat → Int := doR (fun _ => 0) r
def hiR (pl : Int) (r : List Push) : Nat → Int := doR (fun _ => pl) r
theorem rise_const {n : Nat} {pl c : Int} (h0 : 0 ≤ c) (h1 : c ≤ pl) : Rise n pl (fun _ => c) := ⟨fun _ _ => h0, fun _ _ => h1, fun _ _ => Int.le_refl c⟩
theorem lo_le_hi {pl : Int} (hp : 0 ≤ pl) (r : List Push) (j : Nat) : loR r j ≤ hiR pl r j := by
  unfold loR hiR
  rw [doR_at, doR_at]
  exact fold_mono r hp
theorem doR_clamp {n : Nat} {pl : Int} {y : Nat → Int} {r : List Push} (hp : 0 ≤ pl) (hy : Rise n pl y) (hr : ∀ p ∈ r, PuOk n pl p) {j : Nat} (hj : j < n) : doR y r j = clamp (loR r j) (hiR pl r j) (y j) := by
  unfold loR hiR
  rw [doR_at, doR_at, doR_at]
  exact fold_clamp hp r (fun p h => ⟨(hr p h).b0, (hr p h).b1⟩) _ (hy.lo j hj) (hy.hi j hj)
theorem clamp_twice {l h x : Int} (e : l ≤ h) : clamp l h (clamp l h x) = clamp l h x := by
  unfold clamp
  omega
theorem doR_twice {n : Nat} {pl : Int} {y : Nat → Int} {r : List Push} (hp : 0 ≤ pl) (hy : Rise n pl y) (hr : ∀ p ∈ r, PuOk n pl p) {j : Nat} (hj : j < n) : doR (doR y r) r j = doR y r j := by
  rw [doR_clamp hp (doR_rise hy hr) hr hj, doR_clamp hp hy hr hj, clamp_twice (lo_le_hi hp r j)]
/-- a doing done by places -/
def ledF (lo hi y : Nat → Int) : Nat → Int := fun j => clamp (lo j) (hi j) (y j)
theorem led_rise {n : Nat} {pl : Int} {lo hi y : Nat → Int} (h1 : Rise n pl lo) (h2 : Rise n pl hi) (h3 : Rise n pl y) : Rise n pl (ledF lo hi y) where
  lo := fun j hj => by
    have := h1.lo j hj; have := h2.lo j hj; have := h3.lo j hj
    unfold ledF clamp; omega
  hi := fun j hj => by
    have := h1.hi j hj; have := h2.hi j hj; have := h3.hi j hj
    unfold ledF clamp; omega
  up := fun j hj => by
    have := h1.up j hj; have := h2.up j hj; have := h3.up j hj
    unfold ledF clamp; omega
/-- a doing -/
abbrev dgD (ls : List Int) (lo hi : Nat → Int) : PyData := .tuple [tI (stL ls lo), tI (stL ls hi)]
structure DoOk (n : Nat) (pl : Int) (lo hi : Nat → Int) : Prop where
  l : Rise n pl lo
  h : Rise n pl hi
  le : ∀ j, j < n → lo j ≤ hi j
theorem row_doOk {n : Nat} {pl : Int} {r : List Push} (hp : 0 ≤ pl) (hr : ∀ p ∈ r, PuOk n pl p) : DoOk n pl (loR r) (hiR pl r) :=
  ⟨doR_rise (rise_const (Int.le_refl 0) hp) hr, doR_rise (rise_const hp (Int.le_refl pl)) hr, fun j _ => lo_le_hi hp r j⟩
/-! ### is it a doing -/
def allLe : List PyData → List PyData → Bool
  | .int a :: ds, .int b :: es => if a ≤ b then allLe ds es else false
  | _, _ => true
def isDoing (room : Int) (ls : List Int) (d : PyData) : Bool := match d with
  | .tuple [.tuple a, .tuple b] => if isStand room ls (.tuple a) = true then (if isStand room ls (.tuple b) = true then allLe a b else false) else false
  | _ => false
theorem standG_ints {room : Int} : ∀ {ds : List PyData} {ls : List Int} {e : Int}, ds.length = ls.length → standG room e ds ls = true → ∃ ns : List Int, ds = iD ns
  | [], [], e, _, _ => ⟨[], rfl⟩
  | [], l :: ls, e, h, _ => by simp at h
  | d :: ds, [], e, h, _ => by simp at h
  | d :: ds, l :: ls, e, h, hg => by
    cases d with
    | int i =>
      have hg : (if i < e then false else standG room (i + l) ds ls) = true := hg
      split at hg
      · cases hg
      · obtain ⟨ns, rfl⟩ := standG_ints (by simpa using h) hg
        exact ⟨i :: ns, rfl⟩
    | _ => cases hg
theorem isStand_ints {room : Int} {ls : List Int} {d : PyData} (h : isStand room ls d = true) : ∃ ns : List Int, d = tI ns ∧ ns.length = ls.length := by
  cases d with
  | tuple ds =>
    have h : (if (ds.length : Int) = ls.length then standG room 0 ds ls else false) = true := h
    split at h
    · rename_i e
      obtain ⟨ns, rfl⟩ := standG_ints (by omega) h
      exact ⟨ns, rfl, by rw [List.length_map] at e; omega⟩
    · cases h
  | _ => cases h
theorem allLe_ints : ∀ (ns ms : List Int), allLe (iD ns) (iD ms) = (List.zipWith (fun a b => decide (a ≤ b)) ns ms).all id
  | [], _ => by cases ‹List Int› <;> rfl
  | _ :: _, [] => rfl
  | n :: ns, m :: ms => by
    show (if n ≤ m then allLe (iD ns) (iD ms) else false) = (decide (n ≤ m) && (List.zipWith (fun a b => decide (a ≤ b)) ns ms).all id)
    rw [allLe_ints ns ms]
    by_cases h : n ≤ m
    · rw [if_pos h, decide_eq_true h]; simp
    · rw [if_neg h, decide_eq_false h]; simp
theorem allLe_stL {ls : List Int} {lo hi : Nat → Int} (h : ∀ j, j < ls.length → lo j ≤ hi j) : allLe (iD (stL ls lo)) (iD (stL ls hi)) = true := by
  rw [allLe_ints, List.all_eq_true]
  intro b hb
  obtain ⟨i, hi', e⟩ := List.mem_iff_getElem.mp hb
  have hi2 : i < ls.length := by simpa [stL_len] using hi'
  have e1 := stL_get (y := lo) hi2
  have e2 := stL_get (y := hi) hi2
  have g1 : i < (stL ls lo).length := by rw [stL_len]; exact hi2
  have g2 : i < (stL ls hi).length := by rw [stL_len]; exact hi2
  rw [List.getElem?_eq_getElem g1] at e1
  rw [List.getElem?_eq_getElem g2] at e2
  rw [List.getElem_zipWith, Option.some.inj e1, Option.some.inj e2] at e
  rw [← e]
  have := h i hi2
  simp only [id]
  exact decide_eq_true (by omega)
theorem isDoing_ok {room : Int} {ls : List Int} {lo hi : Nat → Int} (sh : ls.sum ≤ room) (h : DoOk ls.length (room - ls.sum) lo hi) : isDoing room ls (dgD ls lo hi) = true := by
  show (if isStand room ls (tI (stL ls lo)) = true then (if isStand room ls (tI (stL ls hi)) = true then allLe (iD (stL ls lo)) (iD (stL ls hi)) else false) else false) = true
  rw [if_pos (isStand_ok h.l sh), if_pos (isStand_ok h.h sh)]
  exact allLe_stL h.le
end PS

namespace PS
open PySem PySem.Spec PyProof.Rows L2
/-! ### a row for a doing -/
def rowF (lo hi : Nat → Int) : Nat → List Push
  | 0 => []
  | k + 1 => rowF lo hi k ++ [(true, k, lo k), (false, k + 1, hi k)]
theorem rowF_len (lo hi : Nat → Int) : ∀ k, (rowF lo hi k).length = 2 * k
  | 0 => rfl
  | k + 1 => by
    rw [rowF, List.length_append, rowF_len lo hi k]
    simp
    omega
theorem rowF_ok {n : Nat} {pl : Int} {lo hi : Nat → Int} (h : DoOk n pl lo hi) : ∀ k, k ≤ n → ∀ p ∈ rowF lo hi k, PuOk n pl p
  | 0, _, p, hp => by simp [rowF] at hp
  | k + 1, hk, p, hp => by
    rw [rowF] at hp
    rcases List.mem_append.mp hp with z | z
    · exact rowF_ok h k (by omega) p z
    · have : p = (true, k, lo k) ∨ p = (false, k + 1, hi k) := by simpa using z
      rcases this with rfl | rfl
      · exact ⟨fun _ => (show k < n by omega), fun z => (nomatch z), h.l.lo k (by omega), h.l.hi k (by omega)⟩
      · exact ⟨fun z => (nomatch z), fun _ => (show 1 ≤ k + 1 ∧ k + 1 ≤ n by omega), h.h.lo k (by omega), h.h.hi k (by omega)⟩
theorem rise_le {n : Nat} {pl : Int} {y : Nat → Int} (h : Rise n pl y) : ∀ (d i : Nat), i + d < n → y i ≤ y (i + d)
  | 0, i, _ => Int.le_refl _
  | d + 1, i, hd => by
    have h1 := rise_le h d i (by omega)
    have h2 := h.up (i + d) (by omega)
    rw [show i + d + 1 = i + (d + 1) from by omega] at h2
    omega
theorem rise_le' {n : Nat} {pl : Int} {y : Nat → Int} (h : Rise n pl y) {i j : Nat} (hij : i ≤ j) (hj : j < n) : y i ≤ y j := by
  have := rise_le h (j - i) i (by omega)
  rw [show i + (j - i) = j from by omega] at this
  exact this
theorem rowF_fold {n : Nat} {pl : Int} {lo hi : Nat → Int} (h : DoOk n pl lo hi) {j : Nat} (hj : j < n) (x : Int) : ∀ k, k ≤ n → (rowF lo hi k).foldl (act j) x = if k = 0 then x else if k ≤ j then max x (lo (k - 1)) else clamp (lo j) (hi j) x
  | 0, _ => rfl
  | k + 1, hk => by
    rw [rowF, List.foldl_append, rowF_fold h hj x k (by omega)]
    show act j (act j _ (true, k, lo k)) (false, k + 1, hi k) = _
    rw [if_neg (show ¬ k + 1 = 0 by omega), show k + 1 - 1 = k from by omega]
    have hle := h.le j hj
    have u1 := rise_le' h.l (i := k - 1) (j := k) (by omega) (by omega)
    have u2 : j ≤ k → hi j ≤ hi k := fun e => rise_le' h.h e (by omega)
    unfold act clamp
    by_cases h2 : k = j
    · subst h2
      simp only [if_true, Bool.false_eq_true, if_false]
      repeat' split
      all_goals omega
    · simp only [if_true, Bool.false_eq_true, if_false]
      repeat' split
      all_goals omega
theorem rowF_lo {n : Nat} {pl : Int} {lo hi : Nat → Int} (h : DoOk n pl lo hi) {j : Nat} (hj : j < n) : loR (rowF lo hi n) j = lo j := by
  unfold loR
  rw [doR_at, rowF_fold h hj 0 n (Nat.le_refl n), if_neg (by omega), if_neg (by omega)]
  have := h.le j hj
  have := h.l.lo j hj
  unfold clamp
  omega
theorem rowF_hi {n : Nat} {pl : Int} {lo hi : Nat → Int} (h : DoOk n pl lo hi) {j : Nat} (hj : j < n) : hiR pl (rowF lo hi n) j = hi j := by
  unfold hiR
  rw [doR_at, rowF_fold h hj pl n (Nat.le_refl n), if_neg (by omega), if_neg (by omega)]
  have := h.le j hj
  have := h.l.hi j hj
  have := h.h.hi j hj
  unfold clamp
  omega
theorem eqv_ints : ∀ (ns ms : List Int), PyData.eqvAll (iD ns) (iD ms) = decide (ns = ms)
  | [], [] => rfl
  | [], m :: ms => rfl
  | n :: ns, [] => rfl
  | n :: ns, m :: ms => by
    show (PyData.eqv (.int n) (.int m) && PyData.eqvAll (iD ns) (iD ms)) = decide (n :: ns = m :: ms)
    rw [eqv_ints ns ms]
    have : PyData.eqv (.int n) (.int m) = (n == m) := by simp [PyData.eqv]
    rw [this]
    by_cases h : n = m
    · subst h
      simp
    · rw [beq_eq_false_iff_ne.mpr h]
      simp [h]
theorem eqv_tI (ns ms : List Int) : PyData.eqv (tI ns) (tI ms) = decide (ns = ms) := by
  rw [PyData.eqv]
  exact eqv_ints ns ms
theorem eqv_dgD {ls : List Int} {a b c d : Nat → Int} : PyData.eqv (dgD ls a b) (dgD ls c d) = decide (stL ls a = stL ls c ∧ stL ls b = stL ls d) := by
  have e : PyData.eqv (dgD ls a b) (dgD ls c d) = (PyData.eqv (tI (stL ls a)) (tI (stL ls c)) && (PyData.eqv (tI (stL ls b)) (tI (stL ls d)) && true)) := by
    rw [PyData.eqv, PyData.eqvAll, PyData.eqvAll, PyData.eqvAll]
  rw [e, eqv_tI, eqv_tI]
  by_cases h1 : stL ls a = stL ls c
  · by_cases h2 : stL ls b = stL ls d
    · simp [h1, h2]
    · simp [h1, h2]
  · simp [h1]
end PS

namespace PS
/-! ### bands, by what they want: up, down; the ways to part them -/
abbrev Fl := Bool × Bool
def bad (g : List Fl) : Nat := ((g.head?.map (·.1)).getD false && (g.getLast?.map (·.2)).getD false).toNat
def gc : List Fl → Nat
  | [] => 0
  | [b] => b.1.toNat + b.2.toNat
  | b :: c :: g => (b :: c :: g).length + bad (b :: c :: g)
theorem bad_le (g : List Fl) : bad g ≤ 1 := by
  unfold bad
  exact Bool.toNat_le _
theorem gc_two {g : List Fl} (h : 2 ≤ g.length) : gc g = g.length + bad g := by
  match g, h with
  | b :: c :: g, _ => rfl
theorem gc_one (b : Fl) : gc [b] = b.1.toNat + b.2.toNat := rfl
inductive Way : List Fl → Nat → Prop
  | nil : Way [] 0
  | grp {g bs : List Fl} {c : Nat} : g ≠ [] → Way bs c → Way (g ++ bs) (gc g + c)
theorem Way.app {a b : List Fl} {c d : Nat} (h : Way a c) (k : Way b d) : Way (a ++ b) (c + d) := by
  induction h with
  | nil => simpa using k
  | grp hg _ ih =>
    rw [List.append_assoc, Nat.add_assoc]
    exact .grp hg ih
theorem Way.single {g : List Fl} (h : g ≠ []) : Way g (gc g) := by
  have := Way.grp h .nil
  simpa using this
def mir (g : List Fl) : List Fl := (g.map Prod.swap).reverse
theorem mir_mir (g : List Fl) : mir (mir g) = g := by
  unfold mir
  rw [List.map_reverse, List.reverse_reverse, List.map_map]
  simp
theorem mir_app (a b : List Fl) : mir (a ++ b) = mir b ++ mir a := by
  unfold mir
  rw [List.map_append, List.reverse_append]
theorem mir_len (a : List Fl) : (mir a).length = a.length := by simp [mir]
theorem bad_mir (g : List Fl) : bad (mir g) = bad g := by
  unfold bad mir
  rw [List.head?_reverse, List.getLast?_reverse, List.getLast?_map, List.head?_map, Option.map_map, Option.map_map, Bool.and_comm]
  rfl
theorem gc_mir (g : List Fl) : gc (mir g) = gc g := by
  match g with
  | [] => rfl
  | [b] =>
    show b.2.toNat + b.1.toNat = b.1.toNat + b.2.toNat
    omega
  | b :: c :: g =>
    rw [gc_two (by rw [mir_len]; simp), gc_two (by simp), bad_mir, mir_len]
theorem Way.mir {a : List Fl} {c : Nat} (h : Way a c) : Way (mir a) c := by
  induction h with
  | nil => exact .nil
  | @grp g bs c hg _ ih =>
    rw [mir_app, Nat.add_comm]
    refine Way.app ih ?_
    rw [← gc_mir]
    refine Way.single (fun z => hg ?_)
    have := congrArg List.length z
    rw [mir_len] at this
    exact List.length_eq_zero_iff.mp (by simpa using this)
theorem gc_ge {g : List Fl} (h : ∀ x ∈ g, x.2 = true) : g.length ≤ gc g := by
  match g, h with
  | [], _ => simp
  | [b], h =>
    have := h b (by simp)
    rw [gc_one, this]
    simp
  | b :: c :: g, _ =>
    rw [gc_two (by simp)]
    omega
theorem way_mid {L : List Fl} {c : Nat} (h : Way L c) : ∀ (J : List Fl) (t : Fl) (B : List Fl), L = J ++ t :: B → (∀ x ∈ J, x.2 = true) →
    ∃ B0 B1 cB, B = B0 ++ B1 ∧ Way B1 cB ∧ (J.length + 1 + B0.length + cB ≤ c ∨ (B0 = [] ∧ t.2 = false ∧ J.length + cB ≤ c)) := by
  induction h with
  | nil => intro J t B e; simp at e
  | @grp g bs c hg hw ih =>
    intro J t B e hJ
    by_cases hl : g.length ≤ J.length
    · obtain ⟨J2, rfl⟩ : ∃ J2, J = g ++ J2 := by
        refine ⟨J.drop g.length, ?_⟩
        have := congrArg (List.take g.length) e
        rw [List.take_left, List.take_append_of_le_length hl] at this
        have h2 := List.take_append_drop g.length J
        rw [← this] at h2
        exact h2.symm
      rw [List.append_assoc] at e
      have e2 := List.append_cancel_left e
      obtain ⟨B0, B1, cB, h1, h2, h3⟩ := ih J2 t B e2 (fun x hx => hJ x (by simp [hx]))
      have hge := gc_ge (g := g) (fun x hx => hJ x (by simp [hx]))
      refine ⟨B0, B1, cB, h1, h2, ?_⟩
      rw [List.length_append]
      rcases h3 with h3 | ⟨h3, h4, h5⟩
      · exact .inl (by omega)
      · exact .inr ⟨h3, h4, by omega⟩
    · obtain ⟨B0, rfl⟩ : ∃ B0, g = J ++ t :: B0 := by
        refine ⟨g.drop (J.length + 1), ?_⟩
        have := congrArg (List.take (J.length + 1)) e
        rw [List.take_append_of_le_length (by omega), List.take_length_add_append] at this
        simp only [List.take_succ_cons, List.take_zero] at this
        have h2 := List.take_append_drop (J.length + 1) g
        rw [this] at h2
        rw [← h2]
        simp
      rw [List.append_assoc] at e
      have e2 := List.append_cancel_left e
      have e3 : B0 ++ bs = B := by simpa using e2
      refine ⟨B0, bs, c, e3.symm, hw, ?_⟩
      by_cases h2 : 2 ≤ (J ++ t :: B0).length
      · rw [gc_two h2]
        simp only [List.length_append, List.length_cons] at h2 ⊢
        exact .inl (by omega)
      · simp only [List.length_append, List.length_cons] at h2
        have hJ0 : J = [] := List.length_eq_zero_iff.mp (by omega)
        have hB0 : B0 = [] := List.length_eq_zero_iff.mp (by omega)
        subst hJ0 hB0
        rw [List.nil_append, gc_one]
        cases ht : t.2 with
        | true => exact .inl (by simp)
        | false => exact .inr ⟨rfl, rfl, by simp⟩
theorem gc_le {g : List Fl} (h : 2 ≤ g.length) : gc g ≤ g.length + 1 := by
  rw [gc_two h]
  have := bad_le g
  omega
theorem way_push {L : List Fl} {c : Nat} (h : Way L c) : ∀ (A I' : List Fl) (t' : Fl) (B : List Fl), L = A ++ (I' ++ t' :: B) → (∀ x ∈ I', x.2 = true) → ∀ (I : List Fl) (t : Fl), I.length = I'.length → (t'.2 = true ∨ t'.2 = t.2) →
    ∃ c2, Way (A ++ (I ++ t :: B)) c2 ∧ c2 ≤ c + 1 := by
  induction h with
  | nil => intro A I' t' B e; simp at e
  | @grp g bs c hg hw ih =>
    intro A I' t' B e hI I t hl ht
    by_cases hA : g.length ≤ A.length
    · obtain ⟨A2, rfl⟩ : ∃ A2, A = g ++ A2 := by
        refine ⟨A.drop g.length, ?_⟩
        have := congrArg (List.take g.length) e
        rw [List.take_left, List.take_append_of_le_length hA] at this
        have h2 := List.take_append_drop g.length A
        rw [← this] at h2
        exact h2.symm
      rw [List.append_assoc] at e
      obtain ⟨c2, w2, l2⟩ := ih A2 I' t' B (List.append_cancel_left e) hI I t hl ht
      refine ⟨gc g + c2, ?_, by omega⟩
      rw [List.append_assoc]
      exact .grp hg w2
    · obtain ⟨R, rfl⟩ : ∃ R, g = A ++ R := by
        refine ⟨g.drop A.length, ?_⟩
        have := congrArg (List.take A.length) e
        rw [List.take_left, List.take_append_of_le_length (by omega)] at this
        have h2 := List.take_append_drop A.length g
        rw [this] at h2
        exact h2.symm
      rw [List.append_assoc] at e
      have e2 := List.append_cancel_left e
      rw [List.length_append] at hA
      by_cases hR : R.length ≤ I'.length
      · obtain ⟨J, rfl⟩ : ∃ J, I' = R ++ J := by
          refine ⟨I'.drop R.length, ?_⟩
          have := congrArg (List.take R.length) e2
          rw [List.take_left, List.take_append_of_le_length hR] at this
          have h2 := List.take_append_drop R.length I'
          rw [← this] at h2
          exact h2.symm
        rw [List.append_assoc] at e2
        have e3 := List.append_cancel_left e2
        obtain ⟨B0, B1, cB, rfl, w1, h3⟩ := way_mid hw J t' B e3 (fun x hx => hI x (by simp [hx]))
        have hge : A.length + R.length ≤ gc (A ++ R) := by
          by_cases h2 : 2 ≤ (A ++ R).length
          · rw [gc_two h2, List.length_append]
            omega
          · have h4 : A = [] := List.length_eq_zero_iff.mp (by rw [List.length_append] at h2; omega)
            subst h4
            have := gc_ge (g := R) (fun x hx => hI x (by simp [hx]))
            simpa using this
        rw [List.length_append] at hl
        have hG : 2 ≤ (A ++ (I ++ t :: B0)).length := by
          simp only [List.length_append, List.length_cons]
          omega
        refine ⟨gc (A ++ (I ++ t :: B0)) + cB, ?_, ?_⟩
        · have := Way.grp (g := A ++ (I ++ t :: B0)) (by simp) w1
          simpa using this
        · rcases h3 with h3 | ⟨rfl, h4, h5⟩
          · have := gc_le hG
            simp only [List.length_append, List.length_cons] at this
            omega
          · have ht2 : t.2 = false := by
              rcases ht with z | z
              · rw [h4] at z; cases z
              · rw [← z]; exact h4
            have hb : bad (A ++ (I ++ [t])) = 0 := by
              unfold bad
              rw [← List.append_assoc, List.getLast?_append]
              simp [ht2]
            rw [gc_two hG, hb]
            simp only [List.length_append, List.length_cons, List.length_nil]
            omega
      · obtain ⟨B0, rfl⟩ : ∃ B0, R = I' ++ t' :: B0 := by
          refine ⟨R.drop (I'.length + 1), ?_⟩
          have := congrArg (List.take (I'.length + 1)) e2
          rw [List.take_append_of_le_length (by omega), List.take_length_add_append] at this
          simp only [List.take_succ_cons, List.take_zero] at this
          have h2 := List.take_append_drop (I'.length + 1) R
          rw [this] at h2
          rw [← h2]
          simp
        rw [List.append_assoc] at e2
        have e3 : B0 ++ bs = B := by simpa using List.append_cancel_left e2
        subst e3
        refine ⟨gc (A ++ (I ++ t :: B0)) + c, ?_, ?_⟩
        · have := Way.grp (g := A ++ (I ++ t :: B0)) (by simp) hw
          simpa using this
        · by_cases h2 : 2 ≤ (A ++ (I' ++ t' :: B0)).length
          · have hG : 2 ≤ (A ++ (I ++ t :: B0)).length := by
              simp only [List.length_append, List.length_cons] at h2 ⊢
              omega
            have := gc_le hG
            rw [gc_two h2]
            simp only [List.length_append, List.length_cons] at this ⊢
            omega
          · simp only [List.length_append, List.length_cons] at h2
            have h4 : A = [] := List.length_eq_zero_iff.mp (by omega)
            have h5 : I' = [] := List.length_eq_zero_iff.mp (by omega)
            have h6 : B0 = [] := List.length_eq_zero_iff.mp (by omega)
            have h7 : I = [] := List.length_eq_zero_iff.mp (by rw [hl, h5]; rfl)
            subst h4 h5 h6 h7
            simp only [List.nil_append, gc_one]
            have := Bool.toNat_le t.1
            rcases ht with z | z
            · have := Bool.toNat_le t.2
              rw [z]
              simp only [Bool.toNat_true]
              omega
            · rw [z]
              omega
/-! ### the least of all ways -/
def Least (bs : List Fl) (c : Nat) : Prop := Way bs c ∧ ∀ c', Way bs c' → c ≤ c'
theorem Least.uniq {bs : List Fl} {c d : Nat} (h : Least bs c) (k : Least bs d) : c = d := Nat.le_antisymm (h.2 _ k.1) (k.2 _ h.1)
theorem way_first {bs : List Fl} {c : Nat} (h : Way bs c) (hb : bs ≠ []) : ∃ m c', 1 ≤ m ∧ m ≤ bs.length ∧ Way (bs.drop m) c' ∧ c = gc (bs.take m) + c' := by
  cases h with
  | nil => exact absurd rfl hb
  | @grp g bs c hg hw =>
    refine ⟨g.length, c, ?_, ?_, ?_, ?_⟩
    · have := List.length_pos_iff.mpr hg
      omega
    · simp
    · simpa using hw
    · simp
theorem first_way {bs : List Fl} {m c : Nat} (h1 : 1 ≤ m) (h2 : m ≤ bs.length) (h : Way (bs.drop m) c) : Way bs (gc (bs.take m) + c) := by
  have := Way.grp (g := bs.take m) (fun z => by
    have := congrArg List.length z
    rw [List.length_take] at this
    simp at this
    rcases this with h | h
    · omega
    · subst h; simp at h2; omega) h
  rwa [List.take_append_drop] at this
theorem way_nil {bs : List Fl} {c : Nat} (h : Way bs c) (e : bs = []) : c = 0 := by
  cases h with
  | nil => rfl
  | grp hg _ => exact absurd (List.append_eq_nil_iff.mp e).1 hg
theorem way_last {bs : List Fl} {c : Nat} (h : Way bs c) : bs ≠ [] → ∃ a c', a < bs.length ∧ Way (bs.take a) c' ∧ c = c' + gc (bs.drop a) := by
  induction h with
  | nil => intro z; exact absurd rfl z
  | @grp g bs c hg hw ih =>
    intro _
    by_cases hb : bs = []
    · subst hb
      have hc := way_nil hw rfl
      subst hc
      refine ⟨0, 0, ?_, ?_, ?_⟩
      · simpa using List.length_pos_iff.mpr hg
      · simpa using Way.nil
      · simp
    · obtain ⟨a, c', h1, h2, h3⟩ := ih hb
      refine ⟨g.length + a, gc g + c', ?_, ?_, ?_⟩
      · rw [List.length_append]; omega
      · rw [List.take_length_add_append]
        exact .grp hg h2
      · rw [List.drop_length_add_append, h3]
        omega
theorem last_way {bs : List Fl} {a c : Nat} (h1 : a < bs.length) (h : Way (bs.take a) c) : Way bs (c + gc (bs.drop a)) := by
  have := h.app (Way.single (g := bs.drop a) (fun z => by
    have := congrArg List.length z
    rw [List.length_drop] at this
    simp at this
    omega))
  rwa [List.take_append_drop] at this
end PS

namespace PS
/-! ### runs of alike places -/
inductive Runs (w : Nat → Int) (n : Nat) : Nat → List (Nat × Nat) → Prop
  | nil : Runs w n n []
  | cons {f e : Nat} {rs : List (Nat × Nat)} : f < e → e ≤ n → (∀ j, f ≤ j → j < e → w j = w f) → (e < n → w f < w e) → Runs w n e rs → Runs w n f ((f, e) :: rs)
def fl (y w : Nat → Int) (r : Nat × Nat) : Fl := (decide (y r.1 < w r.1), decide (w r.1 < y (r.2 - 1)))
def fls (y w : Nat → Int) (rs : List (Nat × Nat)) : List Fl := rs.map (fl y w)
theorem fls_cons (y w : Nat → Int) (r : Nat × Nat) (rs : List (Nat × Nat)) : fls y w (r :: rs) = fl y w r :: fls y w rs := rfl
theorem fl_eq {y z w : Nat → Int} {r : Nat × Nat} (h1 : y r.1 < w r.1 ↔ z r.1 < w r.1) (h2 : w r.1 < y (r.2 - 1) ↔ w r.1 < z (r.2 - 1)) : fl y w r = fl z w r := by
  unfold fl
  rw [decide_eq_decide.mpr h1, decide_eq_decide.mpr h2]
theorem runs_head {w : Nat → Int} {n k : Nat} {rs : List (Nat × Nat)} (h : Runs w n k rs) (hk : rs ≠ []) : k < n := by
  cases h with
  | nil => exact absurd rfl hk
  | cons h1 h2 _ _ _ => omega
/-! a push to the right -/
theorem right_above {y w : Nat → Int} {n g : Nat} {b : Int} : ∀ {k : Nat} {rs : List (Nat × Nat)}, Runs w n k rs → (k < n → b < w k) → fls (pR g b y) w rs = fls y w rs
  | _, _, .nil, _ => rfl
  | k, _, .cons (e := e) (rs := rs) h1 h2 h3 h4 h5, hb => by
    have hb := hb (by omega)
    rw [fls_cons, fls_cons, right_above h5 (fun z => by have := h4 z; omega)]
    congr 1
    apply fl_eq
    · unfold pR
      simp only
      split <;> omega
    · unfold pR
      simp only
      split <;> omega
theorem right_from {y w : Nat → Int} {n g : Nat} {b : Int} : ∀ {k : Nat} {rs : List (Nat × Nat)}, Runs w n k rs → (∀ r ∈ rs, g < r.2) →
    fls (pR g b y) w rs = fls y w rs ∨ ∃ I I' t t' B, fls y w rs = I ++ t :: B ∧ fls (pR g b y) w rs = I' ++ t' :: B ∧ I.length = I'.length ∧ (∀ x ∈ I', x.2 = true) ∧ (t'.2 = true ∨ t'.2 = t.2)
  | _, _, .nil, _ => .inl rfl
  | k, _, .cons (e := e) (rs := rs) h1 h2 h3 h4 h5, hg => by
    have hge : g < e := hg (k, e) (by simp)
    by_cases c1 : b < w k
    · exact .inl (right_above (.cons h1 h2 h3 h4 h5) (fun _ => c1))
    by_cases c2 : w k = b
    · have hr := right_above (y := y) (g := g) (b := b) h5 (fun z => by have := h4 z; omega)
      refine .inr ⟨[], [], fl y w (k, e), fl (pR g b y) w (k, e), fls y w rs, rfl, ?_, rfl, by simp, .inr ?_⟩
      · rw [fls_cons, hr]
        rfl
      · unfold fl
        simp only
        apply decide_eq_decide.mpr
        unfold pR
        split <;> omega
    · have hd : (fl (pR g b y) w (k, e)).2 = true := by
        unfold fl
        simp only
        apply decide_eq_true
        unfold pR
        rw [if_pos (by omega)]
        omega
      rcases right_from (y := y) (b := b) h5 (fun r hr => hg r (by simp [hr])) with hs | ⟨I, I', t, t', B, e1, e2, e3, e4, e5⟩
      · refine .inr ⟨[], [], fl y w (k, e), fl (pR g b y) w (k, e), fls y w rs, rfl, ?_, rfl, by simp, .inl hd⟩
        rw [fls_cons, hs]
        rfl
      · refine .inr ⟨fl y w (k, e) :: I, fl (pR g b y) w (k, e) :: I', t, t', B, ?_, ?_, by simp [e3], ?_, e5⟩
        · rw [fls_cons, e1]; rfl
        · rw [fls_cons, e2]; rfl
        · intro x hx
          rcases List.mem_cons.mp hx with z | z
          · rw [z]; exact hd
          · exact e4 x z
theorem runs_ge {w : Nat → Int} {n : Nat} : ∀ {k : Nat} {rs : List (Nat × Nat)}, Runs w n k rs → ∀ r ∈ rs, k < r.2
  | _, _, .nil, r, h => by simp at h
  | k, _, .cons (e := e) (rs := rs) h1 h2 h3 h4 h5, r, h => by
    rcases List.mem_cons.mp h with z | z
    · rw [z]; exact h1
    · have := runs_ge h5 r z
      omega
theorem right_all {y w : Nat → Int} {n g : Nat} {b : Int} : ∀ {k : Nat} {rs : List (Nat × Nat)}, Runs w n k rs →
    fls (pR g b y) w rs = fls y w rs ∨ ∃ A I I' t t' B, fls y w rs = A ++ (I ++ t :: B) ∧ fls (pR g b y) w rs = A ++ (I' ++ t' :: B) ∧ I.length = I'.length ∧ (∀ x ∈ I', x.2 = true) ∧ (t'.2 = true ∨ t'.2 = t.2)
  | _, _, .nil => .inl rfl
  | k, _, .cons (e := e) (rs := rs) h1 h2 h3 h4 h5 => by
    by_cases c : e ≤ g
    · have hh : fl (pR g b y) w (k, e) = fl y w (k, e) := by
        apply fl_eq
        · unfold pR
          simp only
          rw [if_neg (by omega)]
        · unfold pR
          simp only
          rw [if_neg (by omega)]
      rcases right_all (y := y) (g := g) (b := b) h5 with hs | ⟨A, I, I', t, t', B, e1, e2, e3, e4, e5⟩
      · exact .inl (by rw [fls_cons, fls_cons, hs, hh])
      · exact .inr ⟨fl y w (k, e) :: A, I, I', t, t', B, by rw [fls_cons, e1]; rfl, by rw [fls_cons, e2, hh]; rfl, e3, e4, e5⟩
    · rcases right_from (y := y) (g := g) (b := b) (.cons h1 h2 h3 h4 h5) (fun r hr => by
        rcases List.mem_cons.mp hr with z | z
        · rw [z]; show g < e; omega
        · have := runs_ge h5 r z
          omega) with hs | ⟨I, I', t, t', B, e1, e2, e3, e4, e5⟩
      · exact .inl hs
      · exact .inr ⟨[], I, I', t, t', B, e1, e2, e3, e4, e5⟩
/-! a push to the left -/
theorem left_beyond {y w : Nat → Int} {n g : Nat} {b : Int} : ∀ {k : Nat} {rs : List (Nat × Nat)}, Runs w n k rs → g ≤ k → fls (pL g b y) w rs = fls y w rs
  | _, _, .nil, _ => rfl
  | k, _, .cons (e := e) (rs := rs) h1 h2 h3 h4 h5, hg => by
    rw [fls_cons, fls_cons, left_beyond h5 (by omega)]
    congr 1
    apply fl_eq
    · unfold pL
      simp only
      rw [if_neg (by omega)]
    · unfold pL
      simp only
      rw [if_neg (by omega)]
theorem left_above {y w : Nat → Int} {n g : Nat} {b : Int} : ∀ {k : Nat} {rs : List (Nat × Nat)}, Runs w n k rs → (k < n → b < w k) →
    ∃ I I' B, fls y w rs = I ++ B ∧ fls (pL g b y) w rs = I' ++ B ∧ I.length = I'.length ∧ (∀ x ∈ I', x.1 = true)
  | _, _, .nil, _ => ⟨[], [], [], rfl, rfl, rfl, by simp⟩
  | k, _, .cons (e := e) (rs := rs) h1 h2 h3 h4 h5, hb => by
    have hb := hb (by omega)
    by_cases c : g ≤ k
    · exact ⟨[], [], fls y w ((k, e) :: rs), rfl, left_beyond (.cons h1 h2 h3 h4 h5) c, rfl, by simp⟩
    · obtain ⟨I, I', B, e1, e2, e3, e4⟩ := left_above (y := y) (g := g) (b := b) h5 (fun z => by have := h4 z; omega)
      refine ⟨fl y w (k, e) :: I, fl (pL g b y) w (k, e) :: I', B, by rw [fls_cons, e1]; rfl, by rw [fls_cons, e2]; rfl, by simp [e3], fun x hx => ?_⟩
      rcases List.mem_cons.mp hx with z | z
      · rw [z]
        unfold fl
        simp only
        apply decide_eq_true
        unfold pL
        rw [if_pos (by omega)]
        omega
      · exact e4 x z
theorem left_all {y w : Nat → Int} {n g : Nat} {b : Int} : ∀ {k : Nat} {rs : List (Nat × Nat)}, Runs w n k rs →
    fls (pL g b y) w rs = fls y w rs ∨ ∃ A I I' t t' B, fls y w rs = A ++ (t :: I ++ B) ∧ fls (pL g b y) w rs = A ++ (t' :: I' ++ B) ∧ I.length = I'.length ∧ (∀ x ∈ I', x.1 = true) ∧ (t'.1 = true ∨ t'.1 = t.1)
  | _, _, .nil => .inl rfl
  | k, _, .cons (e := e) (rs := rs) h1 h2 h3 h4 h5 => by
    by_cases c1 : w k < b
    · have hh : fl (pL g b y) w (k, e) = fl y w (k, e) := by
        apply fl_eq
        · unfold pL
          simp only
          split <;> omega
        · unfold pL
          simp only
          split <;> omega
      rcases left_all (y := y) (g := g) (b := b) h5 with hs | ⟨A, I, I', t, t', B, e1, e2, e3, e4, e5⟩
      · exact .inl (by rw [fls_cons, fls_cons, hs, hh])
      · exact .inr ⟨fl y w (k, e) :: A, I, I', t, t', B, by rw [fls_cons, e1]; rfl, by rw [fls_cons, e2, hh]; rfl, e3, e4, e5⟩
    by_cases c2 : w k = b
    · obtain ⟨I, I', B, e1, e2, e3, e4⟩ := left_above (y := y) (g := g) (b := b) h5 (fun z => by have := h4 z; omega)
      refine .inr ⟨[], I, I', fl y w (k, e), fl (pL g b y) w (k, e), B, by rw [fls_cons, e1]; rfl, by rw [fls_cons, e2]; rfl, e3, e4, .inr ?_⟩
      unfold fl
      simp only
      apply decide_eq_decide.mpr
      unfold pL
      split <;> omega
    · obtain ⟨I, I', B, e1, e2, e3, e4⟩ := left_above (y := y) (g := g) (b := b) (.cons h1 h2 h3 h4 h5) (fun z => by omega)
      match I, I', e1, e2, e3, e4 with
      | [], [], e1, e2, _, _ => exact .inl (by rw [e1, e2])
      | t :: I, t' :: I', e1, e2, e3, e4 => exact .inr ⟨[], I, I', t, t', B, e1, e2, by simpa using e3, fun x hx => e4 x (by simp [hx]), .inl (e4 t' (by simp))⟩
/-! one push does no more than one -/
theorem low_one {y w : Nat → Int} {n : Nat} {rs : List (Nat × Nat)} (h : Runs w n 0 rs) (p : Push) {c : Nat} (hw : Way (fls (doP y p) w rs) c) : ∃ c2, Way (fls y w rs) c2 ∧ c2 ≤ c + 1 := by
  obtain ⟨r, g, b⟩ := p
  cases r with
  | true =>
    have hw : Way (fls (pR g b y) w rs) c := hw
    rcases right_all (y := y) (g := g) (b := b) h with hs | ⟨A, I, I', t, t', B, e1, e2, e3, e4, e5⟩
    · exact ⟨c, by rw [← hs]; exact hw, by omega⟩
    · rw [e1]
      exact way_push hw A I' t' B e2 e4 I t e3 e5
  | false =>
    have hw : Way (fls (pL g b y) w rs) c := hw
    rcases left_all (y := y) (g := g) (b := b) h with hs | ⟨A, I, I', t, t', B, e1, e2, e3, e4, e5⟩
    · exact ⟨c, by rw [← hs]; exact hw, by omega⟩
    · rw [e1]
      rw [e2] at hw
      have hm := hw.mir
      have split : ∀ (t : Fl) (I : List Fl), mir (A ++ (t :: I ++ B)) = mir B ++ (mir I ++ t.swap :: mir A) := fun t I => by
        rw [mir_app, mir_app, show t :: I = [t] ++ I from rfl, mir_app]
        simp [mir]
      rw [split] at hm
      obtain ⟨c2, w2, l2⟩ := way_push hm (mir B) (mir I') t'.swap (mir A) rfl (fun x hx => by
        obtain ⟨z, hz, rfl⟩ := List.mem_map.mp (List.mem_reverse.mp hx)
        exact e4 z hz) (mir I) t.swap (by rw [mir_len, mir_len, e3]) e5
      refine ⟨c2, ?_, l2⟩
      have := w2.mir
      rw [← split, mir_mir] at this
      exact this
theorem fls_end {y w : Nat → Int} {n : Nat} : ∀ {k : Nat} {rs : List (Nat × Nat)}, Runs w n k rs → (∀ j, k ≤ j → j < n → y j = w j) → Way (fls y w rs) 0
  | _, _, .nil, _ => .nil
  | k, _, .cons (e := e) (rs := rs) h1 h2 h3 h4 h5, hy => by
    have ih := fls_end h5 (fun j hj hn => hy j (by omega) hn)
    have e0 : fl y w (k, e) = (false, false) := by
      unfold fl
      simp only
      rw [hy k (by omega) (by omega), hy (e - 1) (by omega) (by omega), h3 (e - 1) (by omega) (by omega)]
      simp
    rw [fls_cons, e0]
    exact Way.grp (g := [(false, false)]) (by simp) ih
/-- no fewer pushes lead there -/
theorem low_row {w : Nat → Int} {n : Nat} {rs : List (Nat × Nat)} (h : Runs w n 0 rs) : ∀ (r : List Push) (y : Nat → Int), (∀ j, j < n → doR y r j = w j) → ∃ c, Way (fls y w rs) c ∧ c ≤ r.length
  | [], y, hy => ⟨0, fls_end h (fun j _ hj => hy j hj), Nat.le_refl _⟩
  | p :: r, y, hy => by
    obtain ⟨c, hc, hl⟩ := low_row h r (doP y p) hy
    obtain ⟨c2, h2, l2⟩ := low_one h p hc
    exact ⟨c2, h2, by simp; omega⟩
end PS

namespace PS
/-! ### the rows that the program tells: one group of bands -/
/-- runs from k to e -/
inductive RunsTo (w : Nat → Int) (n : Nat) : Nat → Nat → List (Nat × Nat) → Prop
  | nil {k : Nat} : RunsTo w n k k []
  | cons {f e m : Nat} {rs : List (Nat × Nat)} : f < e → e ≤ n → (∀ j, f ≤ j → j < e → w j = w f) → (e < n → w f < w e) → RunsTo w n e m rs → RunsTo w n f m ((f, e) :: rs)
theorem RunsTo.le {w : Nat → Int} {n : Nat} : ∀ {k m : Nat} {rs : List (Nat × Nat)}, RunsTo w n k m rs → k ≤ m
  | _, _, _, .nil => Nat.le_refl _
  | _, _, _, .cons h1 _ _ _ h5 => by have := h5.le; omega
theorem RunsTo.lt {w : Nat → Int} {n k m : Nat} {rs : List (Nat × Nat)} (h : RunsTo w n k m rs) (hn : rs ≠ []) : k < m := by
  cases h with
  | nil => exact absurd rfl hn
  | cons h1 _ _ _ h5 => have := h5.le; omega
theorem RunsTo.len {w : Nat → Int} {n : Nat} : ∀ {k m : Nat} {rs : List (Nat × Nat)}, RunsTo w n k m rs → k + rs.length ≤ m
  | _, _, _, .nil => by simp
  | _, _, _, .cons h1 _ _ _ h5 => by
    have := h5.len
    simp
    omega
theorem RunsTo.le_n {w : Nat → Int} {n : Nat} : ∀ {k m : Nat} {rs : List (Nat × Nat)}, RunsTo w n k m rs → rs ≠ [] → m ≤ n
  | _, _, _, .nil, h => absurd rfl h
  | _, m, _, .cons (rs := rs) h1 h2 _ _ h5, _ => by
    cases rs with
    | nil => cases h5; exact h2
    | cons r rs => exact h5.le_n (by simp)
theorem RunsTo.app {w : Nat → Int} {n : Nat} : ∀ {k m l : Nat} {rs qs : List (Nat × Nat)}, RunsTo w n k m rs → RunsTo w n m l qs → RunsTo w n k l (rs ++ qs)
  | _, _, _, _, _, .nil, h => h
  | _, _, _, _, _, .cons h1 h2 h3 h4 h5, h => .cons h1 h2 h3 h4 (h5.app h)
theorem RunsTo.split {w : Nat → Int} {n : Nat} : ∀ {rs qs : List (Nat × Nat)} {k l : Nat}, RunsTo w n k l (rs ++ qs) → ∃ m, RunsTo w n k m rs ∧ RunsTo w n m l qs
  | [], qs, k, l, h => ⟨k, .nil, h⟩
  | r :: rs, qs, k, l, h => by
    cases h with
    | cons h1 h2 h3 h4 h5 =>
      obtain ⟨m, a, b⟩ := RunsTo.split h5
      exact ⟨m, .cons h1 h2 h3 h4 a, b⟩
theorem RunsTo.runs {w : Nat → Int} {n : Nat} : ∀ {k : Nat} {rs : List (Nat × Nat)}, RunsTo w n k n rs → Runs w n k rs
  | _, _, .nil => .nil
  | _, _, .cons h1 h2 h3 h4 h5 => .cons h1 h2 h3 h4 h5.runs
/-- rising -/
def Up (n : Nat) (w : Nat → Int) : Prop := ∀ i j, i ≤ j → j < n → w i ≤ w j
theorem Rise.mono {n : Nat} {pl : Int} {y : Nat → Int} (h : Rise n pl y) : Up n y := by
  intro i j hij
  induction j with
  | zero =>
    intro _
    have : i = 0 := by omega
    subst this
    exact Int.le_refl _
  | succ j ih =>
    intro hj
    by_cases e : i = j + 1
    · subst e; exact Int.le_refl _
    · have := ih (by omega) (by omega)
      have := h.up j hj
      omega
/-- the last run -/
theorem RunsTo.last {w : Nat → Int} {n : Nat} : ∀ {k m : Nat} {rs : List (Nat × Nat)} {r : Nat × Nat}, RunsTo w n k m (rs ++ [r]) → r.2 = m ∧ r.1 < m ∧ m ≤ n ∧ (∀ j, r.1 ≤ j → j < m → w j = w r.1) ∧ (m < n → w r.1 < w m) ∧ RunsTo w n k r.1 rs := by
  intro k m rs r h
  obtain ⟨l, a, b⟩ := h.split
  cases b with
  | cons h1 h2 h3 h4 h5 =>
    cases h5
    exact ⟨rfl, h1, h2, h3, h4, a⟩
/-! what a push leaves as it is -/
def Sim (n : Nat) (w : Nat → Int) (k : Nat) (z y : Nat → Int) : Prop := ∀ j, k ≤ j → j < n → (z j < w j ↔ y j < w j) ∧ (w j < z j ↔ w j < y j)
theorem Sim.refl {n : Nat} {w : Nat → Int} {k : Nat} {y : Nat → Int} : Sim n w k y y := fun _ _ _ => ⟨Iff.rfl, Iff.rfl⟩
theorem Sim.trans {n : Nat} {w : Nat → Int} {k : Nat} {x y z : Nat → Int} (h : Sim n w k x y) (g : Sim n w k y z) : Sim n w k x z := fun j h1 h2 => ⟨(h j h1 h2).1.trans (g j h1 h2).1, (h j h1 h2).2.trans (g j h1 h2).2⟩
theorem Sim.le {n : Nat} {w : Nat → Int} {k m : Nat} {x y : Nat → Int} (h : Sim n w k x y) (e : k ≤ m) : Sim n w m x y := fun j h1 h2 => h j (by omega) h2
theorem sim_pR {n : Nat} {w z : Nat → Int} {k g : Nat} {b : Int} (h : ∀ j, k ≤ j → j < n → b < w j) : Sim n w k (pR g b z) z := fun j h1 h2 => by
  have := h j h1 h2
  unfold pR
  split <;> omega
theorem sim_pL {n : Nat} {w z : Nat → Int} {k g : Nat} {b : Int} (h : g ≤ k) : Sim n w k (pL g b z) z := fun j h1 h2 => by
  unfold pL
  rw [if_neg (by omega)]
  exact ⟨Iff.rfl, Iff.rfl⟩
theorem above {n : Nat} {w : Nat → Int} {r m : Nat} (up : Up n w) (h : m < n → w r < w m) : ∀ j, m ≤ j → j < n → w r < w j := fun j h1 h2 => by
  have := up m j h1 h2
  have := h (by omega)
  omega
/-! all from the left, down to their places -/
theorem low_all {n : Nat} {w : Nat → Int} (up : Up n w) : ∀ {k m : Nat} {rs : List (Nat × Nat)}, RunsTo w n k m rs → ∀ (z : Nat → Int) (P : Int), (∀ j, j < k → z j = w j) → (∀ j, k ≤ j → j < m → z j = P) → (∀ j, k ≤ j → j < m → w j ≤ P) →
    (∀ j, j < m → doR z (rs.map fun r => (false, r.2, w r.1)) j = w j) ∧ ∀ j, m ≤ j → doR z (rs.map fun r => (false, r.2, w r.1)) j = z j
  | k, _, _, .nil, z, P, h1, h2, h3 => ⟨h1, fun _ _ => rfl⟩
  | k, m, _, .cons (e := e) (rs := rs) c1 c2 c3 c4 c5, z, P, h1, h2, h3 => by
    have hle := c5.le
    have ih := low_all up c5 (pL e (w k) z) P (fun j hj => by
      unfold pL
      rw [if_pos hj]
      by_cases hk : j < k
      · rw [h1 j hk]
        have := up j k (by omega) (by omega)
        omega
      · rw [h2 j (by omega) (by omega), c3 j (by omega) hj]
        have := h3 k (by omega) (by omega)
        omega) (fun j a b => by
        unfold pL
        rw [if_neg (by omega)]
        exact h2 j (by omega) b) (fun j a b => h3 j (by omega) b)
    refine ⟨ih.1, fun j hj => ?_⟩
    have := ih.2 j hj
    show doR (pL e (w k) z) (rs.map fun r => (false, r.2, w r.1)) j = z j
    rw [this]
    unfold pL
    rw [if_neg (by omega)]
/-! all from the left, up to their places -/
theorem raise_all {n : Nat} {w : Nat → Int} (up : Up n w) : ∀ {k m : Nat} {rs : List (Nat × Nat)}, RunsTo w n k m rs → ∀ (z : Nat → Int) (P : Int), (∀ j, j < k → z j = w j) → (∀ j, k ≤ j → j < m → z j = P) → (∀ j, k ≤ j → j < m → P ≤ w j) →
    (∀ j, j < m → doR z (rs.map fun r => (true, r.1, w r.1)) j = w j) ∧ Sim n w m (doR z (rs.map fun r => (true, r.1, w r.1))) z
  | k, _, _, .nil, z, P, h1, h2, h3 => ⟨h1, Sim.refl⟩
  | k, m, _, .cons (e := e) (rs := rs) c1 c2 c3 c4 c5, z, P, h1, h2, h3 => by
    have hle := c5.le
    have ih := raise_all up c5 (pR k (w k) z) (w k) (fun j hj => by
      unfold pR
      by_cases hk : j < k
      · rw [if_neg (by omega)]
        exact h1 j hk
      · rw [if_pos (by omega), h2 j (by omega) (by omega), c3 j (by omega) hj]
        have := h3 k (by omega) (by omega)
        omega) (fun j a b => by
        unfold pR
        rw [if_pos (by omega), h2 j (by omega) b]
        have := h3 k (by omega) (by omega)
        omega) (fun j a b => by
          by_cases hmn : j < n
          · exact up k j (by omega) hmn
          · exfalso
            cases rs with
            | nil => cases c5; omega
            | cons r rs =>
              have := c5.le_n (by simp)
              omega)
    refine ⟨ih.1, ih.2.trans (sim_pR fun j a b => ?_)⟩
    exact above up c4 j (by omega) b
def rowAlone (y w : Nat → Int) (r : Nat × Nat) : List Push := (if y r.1 < w r.1 then [(true, r.1, w r.1)] else []) ++ (if w r.1 < y (r.2 - 1) then [(false, r.2, w r.1)] else [])
def rowLast (w : Nat → Int) (G : List (Nat × Nat)) (f l : Nat × Nat) : List Push := (true, f.1, w l.1) :: G.dropLast.map fun r => (false, r.2, w r.1)
def rowFirst (y w : Nat → Int) (G : List (Nat × Nat)) (f l : Nat × Nat) : List Push := (false, l.2, w f.1) :: ((if y f.1 < w f.1 then [(true, f.1, w f.1)] else []) ++ G.tail.map fun r => (true, r.1, w r.1))
def rowT (y w : Nat → Int) (G : List (Nat × Nat)) : List Push :=
  if G.length = 1 then rowAlone y w (G.headD (0, 0)) else
  if ¬ w (G.getLastD (0, 0)).1 < y ((G.getLastD (0, 0)).2 - 1) then rowLast w G (G.headD (0, 0)) (G.getLastD (0, 0)) else rowFirst y w G (G.headD (0, 0)) (G.getLastD (0, 0))
/-- where the row of a group leads -/
theorem alone_ok {n : Nat} {w y z : Nat → Int} (up : Up n w) (uz : Up n z) {k e : Nat} (h1 : k < e) (h2 : e ≤ n) (h3 : ∀ j, k ≤ j → j < e → w j = w k) (h4 : e < n → w k < w e) (hz : ∀ j, j < k → z j = w j) (sm : Sim n w k z y) :
    (∀ j, j < e → doR z (rowAlone y w (k, e)) j = w j) ∧ Sim n w e (doR z (rowAlone y w (k, e))) z := by
  have ab := above up h4
  have s1 := (sm k (by omega) (by omega)).1
  have s2 := (sm (e - 1) (by omega) (by omega)).2
  rw [h3 (e - 1) (by omega) (by omega)] at s2
  have below : ∀ j, j < k → w j ≤ w k := fun j hj => up j k (by omega) (by omega)
  have zlo : ∀ j, k ≤ j → j < e → z k ≤ z j := fun j a b => uz k j a (by omega)
  have zhi : ∀ j, k ≤ j → j < e → z j ≤ z (e - 1) := fun j a b => uz j (e - 1) (by omega) (by omega)
  unfold rowAlone
  by_cases u : y k < w k
  · by_cases d : w k < y (e - 1)
    · rw [if_pos u, if_pos d]
      show (∀ j, j < e → pL e (w k) (pR k (w k) z) j = w j) ∧ Sim n w e (pL e (w k) (pR k (w k) z)) z
      refine ⟨fun j hj => ?_, (sim_pL (Nat.le_refl _)).trans (sim_pR fun j a b => ab j (by omega) b)⟩
      unfold pL pR
      rw [if_pos hj]
      by_cases hk : j < k
      · rw [if_neg (by omega), hz j hk]
        have := below j hk
        omega
      · rw [if_pos (by omega), h3 j (by omega) hj]
        omega
    · rw [if_pos u, if_neg d]
      show (∀ j, j < e → pR k (w k) z j = w j) ∧ Sim n w e (pR k (w k) z) z
      refine ⟨fun j hj => ?_, sim_pR fun j a b => ab j (by omega) b⟩
      unfold pR
      by_cases hk : j < k
      · rw [if_neg (by omega), hz j hk]
      · rw [if_pos (by omega), h3 j (by omega) hj]
        have := zhi j (by omega) hj
        omega
  · by_cases d : w k < y (e - 1)
    · rw [if_neg u, if_pos d]
      show (∀ j, j < e → pL e (w k) z j = w j) ∧ Sim n w e (pL e (w k) z) z
      refine ⟨fun j hj => ?_, sim_pL (Nat.le_refl _)⟩
      unfold pL
      rw [if_pos hj]
      by_cases hk : j < k
      · rw [hz j hk]
        have := below j hk
        omega
      · rw [h3 j (by omega) hj]
        have := zlo j (by omega) hj
        omega
    · rw [if_neg u, if_neg d]
      show (∀ j, j < e → z j = w j) ∧ Sim n w e z z
      refine ⟨fun j hj => ?_, Sim.refl⟩
      by_cases hk : j < k
      · exact hz j hk
      · rw [h3 j (by omega) hj]
        have := zlo j (by omega) hj
        have := zhi j (by omega) hj
        omega
theorem last_ok {n : Nat} {w y z : Nat → Int} (up : Up n w) (uz : Up n z) {k e : Nat} {G : List (Nat × Nat)} {f l : Nat × Nat} (h : RunsTo w n k e (G ++ [l])) (hf : f.1 = k) (hd : ¬ w l.1 < y (l.2 - 1)) (hz : ∀ j, j < k → z j = w j) (sm : Sim n w k z y) :
    (∀ j, j < e → doR z (rowLast w (G ++ [l]) f l) j = w j) ∧ Sim n w e (doR z (rowLast w (G ++ [l]) f l)) z := by
  obtain ⟨e1, e2, e3, e4, e5, e6⟩ := h.last
  have hk : k ≤ l.1 := e6.le
  have s2 := (sm (e - 1) (by omega) (by omega)).2
  rw [e4 (e - 1) (by omega) (by omega)] at s2
  rw [e1] at hd
  have zP : ∀ j, k ≤ j → j < e → z j ≤ w l.1 := fun j a b => by
    have := uz j (e - 1) (by omega) (by omega)
    omega
  unfold rowLast
  rw [List.dropLast_concat]
  show (∀ j, j < e → doR (pR f.1 (w l.1) z) (G.map fun r => (false, r.2, w r.1)) j = w j) ∧ Sim n w e (doR (pR f.1 (w l.1) z) (G.map fun r => (false, r.2, w r.1))) z
  rw [hf]
  have la := low_all up e6 (pR k (w l.1) z) (w l.1) (fun j hj => by
    unfold pR
    rw [if_neg (by omega)]
    exact hz j hj) (fun j a b => by
      unfold pR
      rw [if_pos a]
      have := zP j a (by omega)
      omega) (fun j a b => up j l.1 (by omega) (by omega))
  refine ⟨fun j hj => ?_, fun j a b => ?_⟩
  · by_cases c : j < l.1
    · exact la.1 j c
    · rw [la.2 j (by omega)]
      unfold pR
      rw [if_pos (by omega), e4 j (by omega) hj]
      have := zP j (by omega) hj
      omega
  · have e8 := la.2 j (by omega)
    rw [e8]
    exact sim_pR (z := z) (g := k) (b := w l.1) (fun i a' b' => above up e5 i a' b') j a b
theorem first_ok {n : Nat} {w y z : Nat → Int} (up : Up n w) (uz : Up n z) {k e : Nat} {G : List (Nat × Nat)} {f l : Nat × Nat} (h : RunsTo w n k e (f :: G)) (hl : l.2 = e) (hz : ∀ j, j < k → z j = w j) (sm : Sim n w k z y) :
    (∀ j, j < e → doR z (rowFirst y w (f :: G) f l) j = w j) ∧ Sim n w e (doR z (rowFirst y w (f :: G) f l)) z := by
  have hen := h.le_n (by simp)
  cases h with
  | @cons _ e1 _ _ h1 h2 h3 h4 h5 =>
    have hle := h5.le
    have s1 := (sm k (by omega) (by omega)).1
    have zlo : ∀ j, k ≤ j → j < e → z k ≤ z j := fun j a b => uz k j a (by omega)
    unfold rowFirst
    simp only [List.tail_cons, hl]
    have fin : ∀ x : Nat → Int, (∀ j, j < k → x j = w j) → (∀ j, k ≤ j → j < e → x j = w k) → Sim n w e x z → (∀ j, j < e → doR x (G.map fun r => (true, r.1, w r.1)) j = w j) ∧ Sim n w e (doR x (G.map fun r => (true, r.1, w r.1))) z := fun x a b s => by
      have ra := raise_all up h5 x (w k) (fun j hj => by
        by_cases c : j < k
        · exact a j c
        · rw [b j (by omega) (by omega), h3 j (by omega) hj]) (fun j p q => b j (by omega) q) (fun j p q => up k j (by omega) (by omega))
      exact ⟨ra.1, ra.2.trans s⟩
    have lo : ∀ j, j < k → pL e (w k) z j = w j := fun j hj => by
      unfold pL
      rw [if_pos (by omega), hz j hj]
      have := up j k (by omega) (by omega)
      omega
    by_cases u : y k < w k
    · rw [if_pos u]
      show (∀ j, j < e → doR (pR k (w k) (pL e (w k) z)) (G.map fun r => (true, r.1, w r.1)) j = w j) ∧ Sim n w e (doR (pR k (w k) (pL e (w k) z)) (G.map fun r => (true, r.1, w r.1))) z
      apply fin
      · intro j hj
        unfold pR
        rw [if_neg (by omega)]
        exact lo j hj
      · intro j a b
        unfold pR pL
        rw [if_pos a, if_pos b]
        omega
      · exact (sim_pR fun j a b => above up h4 j (by omega) b).trans (sim_pL (Nat.le_refl _))
    · rw [if_neg u]
      show (∀ j, j < e → doR (pL e (w k) z) (G.map fun r => (true, r.1, w r.1)) j = w j) ∧ Sim n w e (doR (pL e (w k) z) (G.map fun r => (true, r.1, w r.1))) z
      apply fin
      · exact lo
      · intro j a b
        unfold pL
        rw [if_pos b]
        have := zlo j a b
        omega
      · exact sim_pL (Nat.le_refl _)
theorem lastD_ne {α : Type} {l : List α} {d : α} (h : l ≠ []) : l.getLastD d = l.getLast h := by
  cases l with
  | nil => exact absurd rfl h
  | cons a l => rw [List.getLastD_cons, List.getLast_eq_getLastD]
theorem rowT_ok {n : Nat} {w y z : Nat → Int} (up : Up n w) (uz : Up n z) {k e : Nat} {G : List (Nat × Nat)} (h : RunsTo w n k e G) (hG : G ≠ []) (hz : ∀ j, j < k → z j = w j) (sm : Sim n w k z y) :
    (∀ j, j < e → doR z (rowT y w G) j = w j) ∧ Sim n w e (doR z (rowT y w G)) z := by
  unfold rowT
  match G, hG with
  | [r], _ =>
    rw [if_pos (show [r].length = 1 from rfl)]
    cases h with
    | cons h1 h2 h3 h4 h5 =>
      cases h5
      exact alone_ok up uz h1 h2 h3 h4 hz sm
  | r :: q :: G, _ =>
    rw [if_neg (by simp)]
    have hr : r.1 = k := by cases h; rfl
    have hs : r :: q :: G = (r :: q :: G).dropLast ++ [(r :: q :: G).getLastD (0, 0)] := by
      rw [lastD_ne (by simp)]
      exact (List.dropLast_concat_getLast (by simp)).symm
    split
    · rename_i hd
      generalize hll : (r :: q :: G).getLastD (0, 0) = l at *
      rw [hs] at h ⊢
      exact last_ok up uz h hr hd hz sm
    · refine first_ok up uz h ?_ hz sm
      rw [hs] at h
      exact h.last.1
/-! the length -/
theorem rowT_len {w y : Nat → Int} {G : List (Nat × Nat)} (hG : G ≠ []) : (rowT y w G).length = gc (fls y w G) := by
  unfold rowT
  match G, hG with
  | [r], _ =>
    rw [if_pos (show [r].length = 1 from rfl)]
    show (rowAlone y w r).length = (decide (y r.1 < w r.1)).toNat + (decide (w r.1 < y (r.2 - 1))).toNat
    unfold rowAlone
    rw [List.length_append]
    congr 1
    · by_cases c : y r.1 < w r.1
      · rw [if_pos c, decide_eq_true c]; rfl
      · rw [if_neg c, decide_eq_false c]; rfl
    · by_cases c : w r.1 < y (r.2 - 1)
      · rw [if_pos c, decide_eq_true c]; rfl
      · rw [if_neg c, decide_eq_false c]; rfl
  | r :: q :: G, _ =>
    rw [if_neg (by simp), gc_two (by simp [fls])]
    have hlen : (fls y w (r :: q :: G)).length = G.length + 2 := by simp [fls]
    have hl : (fls y w (r :: q :: G)).getLast? = some (fl y w ((r :: q :: G).getLastD (0, 0))) := by
      unfold fls
      rw [List.getLast?_map, List.getLast?_eq_some_getLast (by simp), lastD_ne (by simp)]
      rfl
    have hb : bad (fls y w (r :: q :: G)) = (decide (y r.1 < w r.1) && decide (w ((r :: q :: G).getLastD (0, 0)).1 < y (((r :: q :: G).getLastD (0, 0)).2 - 1))).toNat := by
      unfold bad
      rw [hl]
      rfl
    rw [hlen, hb]
    generalize (r :: q :: G).getLastD (0, 0) = l
    split
    · rename_i hd
      rw [decide_eq_false hd]
      unfold rowLast
      simp
    · rename_i hd
      rw [decide_eq_true (Decidable.not_not.mp hd)]
      unfold rowFirst
      simp only [List.headD_cons, List.length_cons, List.length_append, List.length_map, List.tail_cons, Bool.and_true]
      by_cases u : y r.1 < w r.1
      · simp [u]; omega
      · simp [u]
/-! the pushes are good ones -/
theorem rowT_pu {n : Nat} {pl : Int} {w y : Nat → Int} (ri : Rise n pl w) {k e : Nat} {G : List (Nat × Nat)} (h : RunsTo w n k e G) (hG : G ≠ []) : ∀ p ∈ rowT y w G, PuOk n pl p := by
  have hr : ∀ {k e : Nat} {G : List (Nat × Nat)}, RunsTo w n k e G → ∀ r ∈ G, r.1 < r.2 ∧ r.2 ≤ n := by
    intro k e G h
    induction h with
    | nil => intro r hr; simp at hr
    | cons h1 h2 _ _ _ ih =>
      intro r hr
      rcases List.mem_cons.mp hr with z | z
      · rw [z]; exact ⟨h1, h2⟩
      · exact ih r z
  have hr := hr h
  have R : ∀ r ∈ G, ∀ q ∈ G, PuOk n pl (true, r.1, w q.1) := fun r a q b => by
    have := hr r a
    have := hr q b
    exact ⟨fun _ => by simp only; omega, fun z => by simp at z, ri.lo q.1 (by omega), ri.hi q.1 (by omega)⟩
  have L : ∀ r ∈ G, ∀ q ∈ G, PuOk n pl (false, r.2, w q.1) := fun r a q b => by
    have := hr r a
    have := hr q b
    exact ⟨fun z => by simp at z, fun _ => by simp only; omega, ri.lo q.1 (by omega), ri.hi q.1 (by omega)⟩
  have hf : G.headD (0, 0) ∈ G := by
    cases G with
    | nil => exact absurd rfl hG
    | cons r G => simp
  have hl : G.getLastD (0, 0) ∈ G := by
    cases G with
    | nil => exact absurd rfl hG
    | cons r G =>
      rw [lastD_ne (by simp)]
      exact List.getLast_mem _
  intro p hp
  unfold rowT at hp
  split at hp
  · unfold rowAlone at hp
    rcases List.mem_append.mp hp with z | z
    · split at z
      · rw [List.mem_singleton.mp z]; exact R _ hf _ hf
      · simp at z
    · split at z
      · rw [List.mem_singleton.mp z]; exact L _ hf _ hf
      · simp at z
  · split at hp
    · unfold rowLast at hp
      rcases List.mem_cons.mp hp with z | z
      · rw [z]; exact R _ hf _ hl
      · obtain ⟨r, hr, rfl⟩ := List.mem_map.mp z
        exact L _ (List.dropLast_subset _ hr) _ (List.dropLast_subset _ hr)
    · unfold rowFirst at hp
      rcases List.mem_cons.mp hp with z | z
      · rw [z]; exact L _ hl _ hf
      · rcases List.mem_append.mp z with z | z
        · split at z
          · rw [List.mem_singleton.mp z]; exact R _ hf _ hf
          · simp at z
        · obtain ⟨r, hr, rfl⟩ := List.mem_map.mp z
          exact R _ (List.mem_of_mem_tail hr) _ (List.mem_of_mem_tail hr)
/-! ### one group behind the other: what the program has for the first m bands -/
structure Told (n : Nat) (pl : Int) (y w : Nat → Int) (rs : List (Nat × Nat)) (m : Nat) (r : List Push) : Prop where
  ok : ∀ p ∈ r, PuOk n pl p
  least : Least (fls y w (rs.take m)) r.length
  lead : ∀ k, RunsTo w n 0 k (rs.take m) → (∀ j, j < k → doR y r j = w j) ∧ Sim n w k (doR y r) y
theorem told_nil {n : Nat} {pl : Int} {y w : Nat → Int} {rs : List (Nat × Nat)} : Told n pl y w rs 0 [] where
  ok := by simp
  least := by
    simp only [List.take_zero]
    exact ⟨.nil, fun c _ => Nat.zero_le _⟩
  lead := fun k h => by
    simp only [List.take_zero] at h
    cases h
    exact ⟨fun j hj => by omega, Sim.refl⟩
theorem told_next {n : Nat} {pl : Int} {y w : Nat → Int} {rs : List (Nat × Nat)} {m : Nat} (rw' : Rise n pl w) (ry : Rise n pl y) (h : RunsTo w n 0 n rs) (hm : m < rs.length) (f : Nat → List Push) (hf : ∀ a, a ≤ m → Told n pl y w rs a (f a))
    {a : Nat} (ha : a ≤ m) (r : List Push) (hr : r = f a ++ rowT y w ((rs.take (m + 1)).drop a)) (hmin : ∀ b, b ≤ m → r.length ≤ (f b ++ rowT y w ((rs.take (m + 1)).drop b)).length) : Told n pl y w rs (m + 1) r := by
  have hne : ∀ b, b ≤ m → (rs.take (m + 1)).drop b ≠ [] := fun b hb z => by
    have := congrArg List.length z
    rw [List.length_drop, List.length_take] at this
    simp at this
    omega
  have tk : ∀ b, b ≤ m → (rs.take (m + 1)).take b = rs.take b := fun b hb => by rw [List.take_take, Nat.min_eq_left (by omega)]
  have sp : ∀ b, b ≤ m → ∀ k, RunsTo w n 0 k (rs.take (m + 1)) → ∃ l, RunsTo w n 0 l (rs.take b) ∧ RunsTo w n l k ((rs.take (m + 1)).drop b) := fun b hb k hk => by
    rw [← List.take_append_drop b (rs.take (m + 1)), tk b hb] at hk
    exact hk.split
  obtain ⟨K, hK, _⟩ : ∃ K, RunsTo w n 0 K (rs.take (m + 1)) ∧ RunsTo w n K n (rs.drop (m + 1)) := by
    rw [← List.take_append_drop (m + 1) rs] at h
    exact h.split
  have flt : ∀ b, b ≤ m → (fls y w (rs.take (m + 1))).take b = fls y w (rs.take b) := fun b hb => by
    unfold fls
    rw [← List.map_take, tk b hb]
  have fld : ∀ b, (fls y w (rs.take (m + 1))).drop b = fls y w ((rs.take (m + 1)).drop b) := fun b => by
    unfold fls
    rw [List.map_drop]
  have fll : (fls y w (rs.take (m + 1))).length = m + 1 := by
    unfold fls
    rw [List.length_map, List.length_take]
    omega
  refine ⟨fun p hp => ?_, ⟨?_, fun c hc => ?_⟩, fun k hk => ?_⟩
  · rw [hr] at hp
    rcases List.mem_append.mp hp with z | z
    · exact (hf a ha).ok p z
    · obtain ⟨l, _, h2⟩ := sp a ha K hK
      exact rowT_pu rw' h2 (hne a ha) p z
  · rw [hr, List.length_append, rowT_len (hne a ha), ← fld]
    refine last_way (by omega) ?_
    rw [flt a ha]
    exact (hf a ha).least.1
  · obtain ⟨b, c', h1, h2, h3⟩ := way_last hc (fun z => by rw [z] at fll; simp at fll)
    rw [fll] at h1
    rw [flt b (by omega)] at h2
    have h4 := (hf b (by omega)).least.2 c' h2
    have h5 := hmin b (by omega)
    rw [List.length_append, rowT_len (hne b (by omega)), ← fld] at h5
    omega
  · obtain ⟨l, h1, h2⟩ := sp a ha k hk
    obtain ⟨l1, l2⟩ := (hf a ha).lead l h1
    have uz : Up n (doR y (f a)) := (doR_rise ry (hf a ha).ok).mono
    have := rowT_ok (y := y) rw'.mono uz h2 (hne a ha) l1 l2
    rw [hr, doR_app]
    exact ⟨this.1, this.2.trans (l2.le (by have := h2.le; omega))⟩
/-- all bands -/
theorem told_all {n : Nat} {pl : Int} {y w : Nat → Int} {rs : List (Nat × Nat)} {r : List Push} (h : RunsTo w n 0 n rs) (t : Told n pl y w rs rs.length r) : Least (fls y w rs) r.length ∧ (∀ p ∈ r, PuOk n pl p) ∧ (∀ j, j < n → doR y r j = w j) ∧ ∀ q : List Push, (∀ j, j < n → doR y q j = w j) → r.length ≤ q.length := by
  have hl := t.least
  rw [List.take_length] at hl
  refine ⟨hl, t.ok, (t.lead n (by rw [List.take_length]; exact h)).1, fun q hq => ?_⟩
  obtain ⟨c, hc, hle⟩ := low_row h.runs q y hq
  exact Nat.le_trans (hl.2 c hc) hle
end PS

namespace PS
/-! ### how long a run is, counted -/
theorem sorted_run : ∀ (l : List Int) (a : Int), (a :: l).Pairwise (· ≤ ·) → ∀ j, j < l.length + 1 → ((a :: l).getD j 0 = a ↔ j < (a :: l).count a)
  | [], a, _, j, hj => by
    have : j = 0 := by simpa using hj
    subst this
    simp
  | b :: l, a, h, j, hj => by
    have hab : a ≤ b := (List.pairwise_cons.mp h).1 b (by simp)
    by_cases e : b = a
    · subst e
      rw [List.count_cons_self]
      cases j with
      | zero => simp
      | succ j =>
        have ih := sorted_run l b (List.pairwise_cons.mp h).2 j (by simpa using hj)
        rw [List.getD_cons_succ]
        omega
    · have hgt : ∀ x ∈ b :: l, a < x := fun x hx => by
        have h2 := (List.pairwise_cons.mp h).2
        rcases List.mem_cons.mp hx with z | z
        · omega
        · have := (List.pairwise_cons.mp h2).1 x z
          omega
      have hc : (a :: b :: l).count a = 1 := by
        rw [List.count_cons_self, List.count_eq_zero.mpr]
        intro hm
        have := hgt a hm
        omega
      rw [hc]
      cases j with
      | zero => simp
      | succ j =>
        rw [List.getD_cons_succ]
        have hj' : j < (b :: l).length := by simpa using hj
        have : (b :: l).getD j 0 = (b :: l)[j] := by
          rw [List.getD_eq_getElem?_getD, List.getElem?_eq_getElem hj']
          rfl
        rw [this]
        have := hgt _ (List.getElem_mem hj')
        omega
theorem run_count {n : Nat} {w : Nat → Int} {f : Nat} (up : Up n w) (hf : f < n) (hb : f = 0 ∨ w (f - 1) < w f) :
    1 ≤ ((List.range n).map w).count (w f) ∧ f + ((List.range n).map w).count (w f) ≤ n ∧ (∀ j, f ≤ j → j < f + ((List.range n).map w).count (w f) → w j = w f) ∧ (f + ((List.range n).map w).count (w f) < n → w f < w (f + ((List.range n).map w).count (w f))) := by
  have h0 : (((List.range n).map w).take f).count (w f) = 0 := by
    rw [List.count_eq_zero]
    intro hm
    rw [← List.map_take, List.take_range] at hm
    obtain ⟨j, hj, e⟩ := List.mem_map.mp hm
    rw [List.mem_range] at hj
    rcases hb with z | z
    · omega
    · have := up j (f - 1) (by omega) (by omega)
      omega
  have hlen : ((List.range n).map w).length = n := by simp
  have hsplit : ((List.range n).map w).count (w f) = (((List.range n).map w).drop f).count (w f) := by
    have := List.take_append_drop f ((List.range n).map w)
    rw [← this, List.count_append, h0, Nat.zero_add, this]
  have hd : ((List.range n).map w).drop f = w f :: ((List.range n).map w).drop (f + 1) := by
    rw [List.drop_eq_getElem_cons (by omega)]
    simp
  have hget : ∀ j, j < n - f → (((List.range n).map w).drop f).getD j 0 = w (f + j) := fun j hj => by
    rw [List.getD_eq_getElem?_getD, List.getElem?_drop, List.getElem?_map, List.getElem?_range (by omega)]
    rfl
  have hs : (((List.range n).map w).drop f).Pairwise (· ≤ ·) := by
    apply List.Pairwise.drop
    rw [List.pairwise_iff_getElem]
    intro i j hi hj hij
    simp only [List.getElem_map, List.getElem_range]
    simp at hi hj
    exact up i j (by omega) hj
  rw [hsplit]
  have hl2 : (((List.range n).map w).drop f).length = n - f := by rw [List.length_drop, hlen]
  have key : ∀ j, j < n - f → (w (f + j) = w f ↔ j < (((List.range n).map w).drop f).count (w f)) := fun j hj => by
    have := sorted_run (((List.range n).map w).drop (f + 1)) (w f) (by rw [← hd]; exact hs) j (by rw [hd] at hl2; simp at hl2 ⊢; omega)
    rw [← hd, hget j hj] at this
    exact this
  have hle : (((List.range n).map w).drop f).count (w f) ≤ n - f := by
    rw [← hl2]
    exact List.count_le_length
  refine ⟨?_, by omega, fun j h1 h2 => ?_, fun h => ?_⟩
  · have := (key 0 (by omega)).mp rfl
    omega
  · have := (key (j - f) (by omega)).mpr (by omega)
    rw [show f + (j - f) = j from by omega] at this
    exact this
  · have h1 := mt (key _ (show (((List.range n).map w).drop f).count (w f) < n - f by omega)).mp (Nat.lt_irrefl _)
    have h2 := up f (f + (((List.range n).map w).drop f).count (w f)) (by omega) h
    omega
/-- the end of the last run so far, and what is next -/
theorem RunsTo.front {w : Nat → Int} {n : Nat} : ∀ {k m : Nat} {rs : List (Nat × Nat)}, RunsTo w n k m rs → rs ≠ [] → m < n → w (m - 1) < w m
  | _, _, _, .nil, h, _ => absurd rfl h
  | k, m, _, .cons (e := e) (rs := rs) h1 h2 h3 h4 h5, _, hm => by
    cases rs with
    | nil =>
      cases h5
      have := h4 hm
      rw [h3 (m - 1) (by omega) (by omega)]
      exact this
    | cons r rs => exact h5.front (by simp) hm
/-! ### lengths -/
theorem way_singles : ∀ l : List Fl, ∃ c, Way l c ∧ c ≤ 2 * l.length
  | [] => ⟨0, .nil, by simp⟩
  | b :: l => by
    obtain ⟨c, h1, h2⟩ := way_singles l
    refine ⟨gc [b] + c, Way.grp (g := [b]) (by simp) h1, ?_⟩
    rw [gc_one, List.length_cons]
    have := Bool.toNat_le b.1
    have := Bool.toNat_le b.2
    omega
theorem Told.len {n : Nat} {pl : Int} {y w : Nat → Int} {rs : List (Nat × Nat)} {m : Nat} {r : List Push} (t : Told n pl y w rs m r) : r.length ≤ 2 * m := by
  obtain ⟨c, h1, h2⟩ := way_singles (fls y w (rs.take m))
  have h3 := t.least.2 c h1
  unfold fls at h2
  rw [List.length_map, List.length_take] at h2
  omega
theorem rowT_le {w y : Nat → Int} {G : List (Nat × Nat)} (hG : G ≠ []) : (rowT y w G).length ≤ G.length + 1 := by
  rw [rowT_len hG]
  by_cases h : 2 ≤ (fls y w G).length
  · have := gc_le h
    have e : (fls y w G).length = G.length := by simp [fls]
    omega
  · have e : (fls y w G).length = G.length := by simp [fls]
    match G, hG with
    | [r], _ =>
      show gc [fl y w r] ≤ 2
      rw [gc_one]
      have := Bool.toNat_le (fl y w r).1
      have := Bool.toNat_le (fl y w r).2
      omega
    | _ :: _ :: _, _ => simp [fls] at h
/-- what is told of two stands: a row of the fewest pushes -/
structure Best (n : Nat) (pl : Int) (y w : Nat → Int) (r : List Push) : Prop where
  ok : ∀ p ∈ r, PuOk n pl p
  lead : ∀ j, j < n → doR y r j = w j
  least : ∃ rs, RunsTo w n 0 n rs ∧ Least (fls y w rs) r.length
  few : ∀ q : List Push, (∀ j, j < n → doR y q j = w j) → r.length ≤ q.length
  len : r.length ≤ 2 * n
theorem best_of {n : Nat} {pl : Int} {y w : Nat → Int} {rs : List (Nat × Nat)} {r : List Push} (h : RunsTo w n 0 n rs) (t : Told n pl y w rs rs.length r) : Best n pl y w r := by
  obtain ⟨h1, h2, h3, h4⟩ := told_all h t
  have h5 := t.len
  have h6 := h.len
  exact ⟨h2, h3, ⟨rs, h, h1⟩, h4, by omega⟩
theorem Best.same {n : Nat} {pl : Int} {y w : Nat → Int} {r q : List Push} (h : Best n pl y w r) (k : Best n pl y w q) : r.length = q.length := Nat.le_antisymm (h.few q k.lead) (k.few r h.lead)
end PS

namespace PS
/-! ### bands as the law sees them -/
def lawB (y w : Nat → Int) : Nat → List Fl
  | 0 => []
  | k + 1 =>
    let L := if k = 0 ∨ w k ≠ w (k - 1) then lawB y w k ++ [(false, false)] else lawB y w k
    L.dropLast ++ [((L.getLastD (false, false)).1 || decide (y k < w k), (L.getLastD (false, false)).2 || decide (w k < y k))]
theorem lastD_sn (L : List Fl) (x : Fl) : (L ++ [x]).getLastD (false, false) = x := by
  rw [lastD_ne (by simp)]
  simp
theorem lawB_run {n : Nat} {y w : Nat → Int} (up : Up n y) {f k : Nat} (hk : k ≤ n) (hc : ∀ j, f ≤ j → j < k → w j = w f) (hf : f = 0 ∨ w (f - 1) < w f) :
    ∀ i, f + (i + 1) ≤ k → lawB y w (f + (i + 1)) = lawB y w f ++ [(decide (y f < w f), decide (w f < y (f + i)))]
  | 0, hi => by
    show (let L := if f = 0 ∨ w f ≠ w (f - 1) then lawB y w f ++ [(false, false)] else lawB y w f; L.dropLast ++ [((L.getLastD (false, false)).1 || decide (y f < w f), (L.getLastD (false, false)).2 || decide (w f < y f))]) = _
    rw [if_pos (by rcases hf with z | z; exact .inl z; exact .inr (by omega))]
    simp only [List.dropLast_concat, lastD_sn, Bool.false_or]
    rfl
  | i + 1, hi => by
    have ih := lawB_run up hk hc hf i (by omega)
    show (let L := if f + (i + 1) = 0 ∨ w (f + (i + 1)) ≠ w (f + (i + 1) - 1) then lawB y w (f + (i + 1)) ++ [(false, false)] else lawB y w (f + (i + 1)); L.dropLast ++ [((L.getLastD (false, false)).1 || decide (y (f + (i + 1)) < w (f + (i + 1))), (L.getLastD (false, false)).2 || decide (w (f + (i + 1)) < y (f + (i + 1))))]) = _
    have e1 := hc (f + (i + 1)) (by omega) (by omega)
    have e2 := hc (f + i) (by omega) (by omega)
    rw [if_neg (by
      rintro (z | z)
      · omega
      · rw [show f + (i + 1) - 1 = f + i from by omega, e1, e2] at z
        exact z rfl), ih]
    simp only [List.dropLast_concat, lastD_sn]
    have u1 := up f (f + (i + 1)) (by omega) (by omega)
    have u2 := up (f + i) (f + (i + 1)) (by omega) (by omega)
    rw [e1]
    congr 3
    · by_cases c : y f < w f
      · simp [c]
      · rw [decide_eq_false c, decide_eq_false (by omega)]; rfl
    · by_cases c : w f < y (f + i)
      · rw [decide_eq_true c, decide_eq_true (by omega)]; rfl
      · rw [decide_eq_false c, Bool.false_or]
theorem runs_nil {w : Nat → Int} {n k m : Nat} (h : RunsTo w n k m []) : k = m := by
  cases h
  rfl
theorem lawB_runs {n : Nat} {y w : Nat → Int} (up : Up n y) : ∀ (m : Nat) (rs : List (Nat × Nat)) (k : Nat), rs.length = m → k ≤ n → RunsTo w n 0 k rs → lawB y w k = fls y w rs
  | 0, rs, k, hm, _, h => by
    have : rs = [] := List.length_eq_zero_iff.mp hm
    subst this
    cases h
    rfl
  | m + 1, rs, k, hm, hk, h => by
    obtain ⟨rs0, r, rfl⟩ : ∃ rs0 r, rs = rs0 ++ [r] := by
      cases List.eq_nil_or_concat rs with
      | inl h' => rw [h'] at hm; simp at hm
      | inr h' =>
        obtain ⟨a, b, h'⟩ := h'
        exact ⟨a, b, by rw [h']; simp⟩
    obtain ⟨e1, e2, e3, e4, e5, e6⟩ := h.last
    have ih := lawB_runs up m rs0 r.1 (by simpa using hm) (by omega) e6
    have hf : r.1 = 0 ∨ w (r.1 - 1) < w r.1 := by
      by_cases c : rs0 = []
      · subst c
        exact .inl (runs_nil e6).symm
      · exact .inr (e6.front c (by omega))
    have := lawB_run up hk e4 hf (k - r.1 - 1) (by omega)
    rw [show r.1 + (k - r.1 - 1 + 1) = k from by omega, show r.1 + (k - r.1 - 1) = k - 1 from by omega, ih] at this
    rw [this]
    unfold fls
    rw [List.map_append]
    show _ = _ ++ [fl y w r]
    unfold fl
    rw [e1]
theorem lawB_len {y w : Nat → Int} : ∀ k, (lawB y w k).length ≤ k ∧ (0 < k → 0 < (lawB y w k).length)
  | 0 => ⟨Nat.le_refl _, fun h => by omega⟩
  | k + 1 => by
    have ih := lawB_len (y := y) (w := w) k
    refine ⟨?_, fun _ => by simp [lawB]⟩
    show (let L := if k = 0 ∨ w k ≠ w (k - 1) then lawB y w k ++ [(false, false)] else lawB y w k; L.dropLast ++ [((L.getLastD (false, false)).1 || decide (y k < w k), (L.getLastD (false, false)).2 || decide (w k < y k))]).length ≤ k + 1
    simp only [List.length_append, List.length_dropLast, List.length_cons, List.length_nil]
    split
    · rw [List.length_append]
      simp
      omega
    · rename_i c
      have : 0 < k := by
        by_cases e : k = 0
        · exact absurd (.inl e) c
        · omega
      have := ih.2 this
      omega
/-! ### the least, from the first group on -/
theorem least_ex (l : List Fl) : ∃ c, Least l c := by
  obtain ⟨c0, h0, _⟩ := way_singles l
  have : ∀ n c, c ≤ n → Way l c → ∃ d, Least l d := fun n => by
    induction n with
    | zero =>
      intro c hc hw
      have : c = 0 := by omega
      subst this
      exact ⟨0, hw, fun _ _ => Nat.zero_le _⟩
    | succ n ih =>
      intro c hc hw
      by_cases h : ∃ d, d < c ∧ Way l d
      · obtain ⟨d, hd, hw'⟩ := h
        exact ih d (by omega) hw'
      · exact ⟨c, hw, fun d hd => by
          by_cases e : c ≤ d
          · exact e
          · exact absurd ⟨d, by omega, hd⟩ h⟩
  exact this c0 c0 (Nat.le_refl _) h0
structure BestTo (l : List Fl) (m b : Nat) : Prop where
  at_ : ∃ j c, 1 ≤ j ∧ j < m ∧ Least (l.drop j) c ∧ b = gc (l.take j) + c
  le : ∀ j c, 1 ≤ j → j < m → Least (l.drop j) c → b ≤ gc (l.take j) + c
theorem BestTo.first {l : List Fl} {c : Nat} (h : Least (l.drop 1) c) : BestTo l 2 (gc (l.take 1) + c) where
  at_ := ⟨1, c, by omega, by omega, h, rfl⟩
  le := fun j d h1 h2 hd => by
    have : j = 1 := by omega
    subst this
    rw [h.uniq hd]
    exact Nat.le_refl _
theorem BestTo.next {l : List Fl} {m b c : Nat} (h : BestTo l m b) (hm : 1 ≤ m) (hc : Least (l.drop m) c) : BestTo l (m + 1) (min b (gc (l.take m) + c)) where
  at_ := by
    by_cases e : b ≤ gc (l.take m) + c
    · obtain ⟨j, d, h1, h2, h3, h4⟩ := h.at_
      exact ⟨j, d, h1, by omega, h3, by omega⟩
    · exact ⟨m, c, hm, by omega, hc, by omega⟩
  le := fun j d h1 h2 hd => by
    by_cases e : j = m
    · subst e
      rw [hc.uniq hd]
      exact Nat.min_le_right _ _
    · have := h.le j d h1 (by omega) hd
      omega
theorem BestTo.least {l : List Fl} {b : Nat} (hl : l ≠ []) (h : BestTo l (l.length + 1) b) : Least l b := by
  obtain ⟨j, c, h1, h2, h3, h4⟩ := h.at_
  refine ⟨by rw [h4]; exact first_way h1 (by omega) h3.1, fun c' hc' => ?_⟩
  obtain ⟨m, d, m1, m2, hd, e⟩ := way_first hc' hl
  obtain ⟨c0, hc0⟩ := least_ex (l.drop m)
  have := h.le m c0 m1 (by omega) hc0
  have := hc0.2 d hd
  omega
def ownS (l : List Fl) (m s : Nat) : Nat := if (s = m - 1 ∧ (l.getD s (false, false)).2 = false) ∨ (s = 0 ∧ (l.getD s (false, false)).1 = false) then 1 else 2
theorem bad_take {l : List Fl} {m : Nat} (h2 : 2 ≤ m) (hm : m ≤ l.length) : bad (l.take m) = ((l.getD 0 (false, false)).1 && (l.getD (m - 1) (false, false)).2).toNat := by
  unfold bad
  have e1 : (l.take m).head? = some (l.getD 0 (false, false)) := by
    rw [List.head?_eq_getElem?, List.getElem?_take, if_pos (by omega), List.getElem?_eq_getElem (by omega)]
    simp [show 0 < l.length by omega]
  have e2 : (l.take m).getLast? = some (l.getD (m - 1) (false, false)) := by
    rw [List.getLast?_eq_getElem?, List.length_take, Nat.min_eq_left hm, List.getElem?_take, if_pos (by omega), List.getElem?_eq_getElem (by omega)]
    simp [show m - 1 < l.length by omega]
  rw [e1, e2]
  rfl
theorem own_le {l : List Fl} {m s : Nat} (h2 : 2 ≤ m) (hm : m ≤ l.length) (hs : s < m) : gc (l.take m) ≤ m - 1 + ownS l m s := by
  rw [gc_two (by rw [List.length_take]; omega), bad_take h2 hm, List.length_take, Nat.min_eq_left hm]
  unfold ownS
  split
  · rename_i c
    rcases c with ⟨e, z⟩ | ⟨e, z⟩
    · rw [e] at z
      rw [z]
      simp
      omega
    · rw [e] at z
      rw [z]
      simp
      omega
  · have := Bool.toNat_le ((l.getD 0 (false, false)).1 && (l.getD (m - 1) (false, false)).2)
    omega
theorem own_at {l : List Fl} {m : Nat} (h2 : 2 ≤ m) (hm : m ≤ l.length) : ∃ s, s < m ∧ gc (l.take m) = m - 1 + ownS l m s := by
  rw [gc_two (by rw [List.length_take]; omega), bad_take h2 hm, List.length_take, Nat.min_eq_left hm]
  cases e1 : (l.getD 0 (false, false)).1 with
  | false =>
    refine ⟨0, by omega, ?_⟩
    unfold ownS
    rw [if_pos (.inr ⟨rfl, e1⟩)]
    simp
    omega
  | true =>
    cases e2 : (l.getD (m - 1) (false, false)).2 with
    | false =>
      refine ⟨m - 1, by omega, ?_⟩
      unfold ownS
      rw [if_pos (.inl ⟨rfl, e2⟩)]
      simp
      omega
    | true =>
      refine ⟨0, by omega, ?_⟩
      unfold ownS
      rw [if_neg (by
        rintro (⟨z, _⟩ | ⟨_, z⟩)
        · omega
        · rw [e1] at z; cases z)]
      simp
      omega
/-! ### rows as data -/
theorem nat_inj {a b : Nat} (h : (a : Int) = (b : Int)) : a = b := by omega
end PS

namespace PS
open PySem PySem.Spec PyProof.Rows L2
/-! ### data does not hold the cell of an instance -/
mutual
theorem dp_offI {K : PySem.W.Frag} {H : Hp} {k C dx : Addr} {fs : List (Str × V)} (hk : H k = some (.ins C dx fs)) : ∀ (d : PyData) (v : V), Dp K H v d → Dp K (Off k H) v d
  | .none, _, h => by cases h; exact .non
  | .bool b, _, h => by cases h; exact .bl b
  | .int i, _, h => by cases h; exact .int i
  | .str x, _, h => by cases h; exact .str x
  | .list ds, _, h => by
    cases h with
    | lst s al =>
      refine .lst ?_ (dpAll_offI hk ds _ al)
      rcases s with (s | ⟨o, s⟩) | s
      · exact .inl (.inl (off_at (ne_of s hk (by intro z; cases z)) s))
      · exact .inl (.inr ⟨o, off_at (ne_of s hk (by intro z; cases z)) s⟩)
      · exact .inr s
  | .tuple ds, _, h => by
    cases h with
    | tup s al =>
      refine .tup ?_ (dpAll_offI hk ds _ al)
      rcases s with (s | ⟨o, s⟩) | s
      · exact .inl (.inl (off_at (ne_of s hk (by intro z; cases z)) s))
      · exact .inl (.inr ⟨o, off_at (ne_of s hk (by intro z; cases z)) s⟩)
      · exact .inr s
  | .dict _, _, h => by cases h
theorem dpAll_offI {K : PySem.W.Frag} {H : Hp} {k C dx : Addr} {fs : List (Str × V)} (hk : H k = some (.ins C dx fs)) : ∀ (ds : List PyData) (vs : List V), DpAll K H vs ds → DpAll K (Off k H) vs ds
  | [], _, h => by cases h; exact .nil
  | d :: ds, _, h => by
    cases h with
    | cons h1 h2 => exact .cons (dp_offI hk d _ h1) (dpAll_offI hk ds _ h2)
end
theorem offI_upd (k : Addr) (H : Hp) (o : HO) : Same (Off k H) (upd H k o) := fun b x h => by
  unfold Off at h
  split at h
  · cases h
  · rename_i n
    rw [upd_ne n]
    exact h
theorem offI_upd2 (k : Addr) (H : Hp) (o : HO) : Same (Off k H) (Off k (upd H k o)) := off_of fun b x n h => by
  rw [upd_ne n]
  exact h
/-! ### a bench -/
abbrev benL (v1 v2 v3 v4 v5 v6 : V) : List (Str × V) := [("shelf", v1), ("now", v2), ("least", v3), ("greatest", v4), ("many", v5), ("wish", v6)]
theorem ben_put (v1 v2 v3 v4 v5 v6 : V) : putF "wish" v6 (putF "many" v5 (putF "greatest" v4 (putF "least" v3 (putF "now" v2 (putF "shelf" v1 []))))) = benL v1 v2 v3 v4 v5 v6 := rfl
theorem ben_now (v1 v2 v3 v4 v5 v6 v : V) : putF "now" v (benL v1 v2 v3 v4 v5 v6) = benL v1 v v3 v4 v5 v6 := rfl
theorem ben_least (v1 v2 v3 v4 v5 v6 v : V) : putF "least" v (benL v1 v2 v3 v4 v5 v6) = benL v1 v2 v v4 v5 v6 := rfl
theorem ben_greatest (v1 v2 v3 v4 v5 v6 v : V) : putF "greatest" v (benL v1 v2 v3 v4 v5 v6) = benL v1 v2 v3 v v5 v6 := rfl
theorem ben_many (v1 v2 v3 v4 v5 v6 v : V) : putF "many" v (benL v1 v2 v3 v4 v5 v6) = benL v1 v2 v3 v4 v v6 := rfl
theorem ben_wish (v1 v2 v3 v4 v5 v6 v : V) : putF "wish" v (benL v1 v2 v3 v4 v5 v6) = benL v1 v2 v3 v4 v5 v := rfl
end PS

namespace PS
open PySem PySem.Spec PyProof.Rows L2
/-! ### what is a stand has places -/
theorem standG_rise {room : Int} {ls ns : List Int} {t : Nat → Int} (hn : ns.length = ls.length) (ht : ∀ j (h : j < ns.length), ns[j] = t j + pre ls j) : ∀ (m k : Nat) (e : Int), m + k = ls.length → standG room e ((iD ns).drop k) (ls.drop k) = true →
    (k < ls.length → e ≤ t k + pre ls k) ∧ (∀ j, k ≤ j → j + 1 < ls.length → t j ≤ t (j + 1)) ∧ (k < ls.length → t (ls.length - 1) ≤ room - ls.sum) ∧ (k = ls.length → e ≤ room)
  | 0, k, e, hk, h => by
    have hk : k = ls.length := by omega
    rw [List.drop_of_length_le (by rw [List.length_map]; omega), List.drop_of_length_le (by omega)] at h
    exact ⟨fun z => by omega, fun j h1 h2 => by omega, fun z => by omega, fun _ => of_decide_eq_true h⟩
  | m + 1, k, e, hk, h => by
    have hlt : k < ls.length := by omega
    have hl : k < (iD ns).length := by rw [List.length_map]; omega
    have e1 : (iD ns)[k] = .int (t k + pre ls k) := by rw [List.getElem_map, ht k (by omega)]
    rw [List.drop_eq_getElem_cons hl, List.drop_eq_getElem_cons hlt, e1] at h
    have h : (if t k + pre ls k < e then false else standG room (t k + pre ls k + ls[k]) ((iD ns).drop (k + 1)) (ls.drop (k + 1))) = true := h
    have hp := pre_succ hlt
    split at h
    · cases h
    · rename_i hc
      obtain ⟨a1, a2, a3, a4⟩ := standG_rise hn ht m (k + 1) _ (by omega) h
      refine ⟨fun _ => by omega, fun j h1 h2 => ?_, fun _ => ?_, fun z => by omega⟩
      · by_cases ej : j = k
        · subst ej
          have := a1 h2
          omega
        · exact a2 j (by omega) h2
      · by_cases el : k + 1 < ls.length
        · exact a3 el
        · have ek : k + 1 = ls.length := by omega
          have := a4 ek
          have hs := pre_all ls (j := k + 1) (by omega)
          rw [show ls.length - 1 = k by omega]
          omega
theorem stand_data {room : Int} {ls : List Int} {d : PyData} (h : isStand room ls d = true) : ∃ t, d = tI (stL ls t) ∧ Rise ls.length (room - ls.sum) t := by
  obtain ⟨ns, rfl, hn⟩ := isStand_ints h
  have h : (if ((iD ns).length : Int) = ls.length then standG room 0 (iD ns) ls else false) = true := h
  rw [if_pos (by rw [List.length_map, hn])] at h
  obtain ⟨y, hy⟩ : ∃ y : Nat → Int, ∀ j, y j = ns.getD j 0 - pre ls j := ⟨_, fun _ => rfl⟩
  have ht : ∀ j (h : j < ns.length), ns[j] = y j + pre ls j := fun j hj => by
    rw [hy, List.getD_eq_getElem?_getD, List.getElem?_eq_getElem hj, Option.getD_some]
    omega
  obtain ⟨a1, a2, a3, a4⟩ := standG_rise hn ht ls.length 0 0 (by omega) (by simpa using h)
  have up : ∀ i j, j + i < ls.length → y j ≤ y (j + i) := fun i => by
    induction i with
    | zero => intro j _; exact Int.le_refl _
    | succ i ih =>
      intro j hj
      have := ih j (by omega)
      have := a2 (j + i) (by omega) (by omega)
      rw [show j + (i + 1) = j + i + 1 by omega]
      omega
  refine ⟨y, ?_, ⟨fun j hj => ?_, fun j hj => ?_, fun j hj => a2 j (by omega) hj⟩⟩
  · congr 2
    apply List.ext_getElem?
    intro j
    by_cases hj : j < ls.length
    · rw [stL_get hj, List.getElem?_eq_getElem (by omega), ht j (by omega)]
    · rw [List.getElem?_eq_none (by omega), List.getElem?_eq_none (by rw [stL_len]; omega)]
  · have h0 := a1 (by omega)
    have := up j 0 (by omega)
    rw [pre_zero] at h0
    rw [Nat.zero_add] at this
    omega
  · have := a3 (by omega)
    have h2 := up (ls.length - 1 - j) j (by omega)
    rw [show j + (ls.length - 1 - j) = ls.length - 1 by omega] at h2
    omega
end PS

/-! While an exception is handled: the ends of walks (zip of two lists, a tuple unpacked). -/
namespace HT
open PySem PySem.Spec PyProof.Rows HotX
section
variable {prog : Program} {w : World} {A : Around} {E : Value → Shared → Prop} {s : Shared}
theorem fresh1 (h : Heap) (o : Obj) : h.get? (h.push o).objs.size = none := by
  cases z : h.get? (h.push o).objs.size with
  | none => rfl
  | some o' =>
    have y := Heap.lt_size z
    rw [Heap.size_push] at y
    exact (Nat.not_succ_lt_self y).elim
/-- a new StopIteration, as it stands before it is raised -/
theorem stopMade {M : Model} {Q : Value → Shared → Prop} (q : ∀ h' e oe vs, (∀ b o, s.heap.get? b = some o → h'.get? b = some o) → s.heap.get? e = none → h'.get? e = some oe → oe.cls = .type "StopIteration" → oe.data = .fields vs → 2 < vs.size → Q (.ref e) { s with heap := h' }) :
    wpAny M A (newExc (.type "StopIteration") []) Q E s := by
  simp only [newExc, newTuple]
  refine wpAny_bind (wpAny_newObj_type ?_ (by size_fits))
  refine wpAny_bind (m := firstArgMember _ _) (wpAny_of_eq (a := Value.none) (by first | rfl | (simp only [firstArgMember]; rfl)) ?_)
  refine wpAny_newObj_type (q _ _ _ _ (fun b o z => Heap.get?_push_of_some _ (Heap.get?_push_of_some _ z)) ?_ (Heap.get?_push_size _ rfl) rfl rfl (by first | (simp; done) | (simp; omega) | (simp only [Array.size_append]; simp; omega))) (by size_fits)
  exact fresh1 _ _
/-- .. and as it is raised while x1 is handled -/
theorem stopHot {α : Type} {x1 : Addr} {Q : α → Shared → Prop} (hot : HotAt A x1 s.heap)
    (q : ∀ h' e, (∀ b o, s.heap.get? b = some o → h'.get? b = some o) → (∃ o, h'.get? e = some o ∧ o.cls = .type "StopIteration") → E (.ref e) { s with heap := h' }) :
    wpAny (model prog w) A (newExc (.type "StopIteration") [] >>= fun v => (raiseNew v : Sem α)) Q E s := by
  refine wpAny_bind (stopMade fun h' e oe vs k n he hc hd hz => ?_)
  obtain ⟨hh, o1, v1, g1, d1, c1⟩ := hot
  have ne : x1 ≠ e := fun z => by
    rw [z, n] at g1
    cases g1
  refine raiseNew_hot ⟨hh, o1, v1, k _ _ g1, d1, c1⟩ ne he hd hz (q _ e (fun b o z => ?_) ⟨_, Heap.get?_update_self _ he (Obj.isFreed_of_fields (Obj.data_mapFields hd _)), (Obj.cls_mapFields ..).trans hc⟩)
  have nb : e ≠ b := fun y => by
    rw [← y, n] at z
    cases z
  rw [Heap.get?_update_other _ _ nb]
  exact k b o z
theorem hotAt_up {x1 : Addr} {h h' : Heap} (hot : HotAt A x1 h) (k : ∀ o, h.get? x1 = some o → h'.get? x1 = some o) : HotAt A x1 h' := by
  obtain ⟨hh, o1, v1, g1, d1, c1⟩ := hot
  exact ⟨hh, o1, v1, k _ g1, d1, c1⟩
/-- the handled exception is no iterator -/
theorem hot_ne {x1 b : Addr} {h : Heap} {o : Obj} (hot : HotAt A x1 h) (e : h.get? b = some o) (d : ∀ vs : Array Value, o.data = .fields vs → vs[2]? ≠ some .none) : x1 ≠ b := by
  obtain ⟨hh, o1, v1, g1, d1, c1⟩ := hot
  intro z
  rw [z, e] at g1
  cases g1
  exact d v1 d1 c1
theorem listEndHot {it l x1 : Addr} {i : Nat} {items : Array Value} {Q : Value → Shared → Prop} (hot : HotAt A x1 s.heap) (hit : s.heap.IsListIter it l i) (hl : s.heap.IsList l items) (hx : items[i]? = none)
    (q : ∀ h' e, Heap.ExtBut it s.heap h' → (∃ o, h'.get? e = some o ∧ o.cls = .type "StopIteration") → E (.ref e) { s with heap := h' }) : wpAny (model prog w) A (Builtin.SmallTypes.nextOf (.ref it)) Q E s := by
  obtain ⟨o, ho, hc, hd⟩ := id hit
  obtain ⟨ol, hol, _, nl, hdl⟩ := hl
  have ne : x1 ≠ it := hot_ne hot ho fun vs z => by
    rw [hd] at z
    cases z
    simp
  unfold Builtin.SmallTypes.nextOf
  refine wpAny_bind (wpAny_callSpecial?_slot (name := Str.ofString "__next__") hit.typeIs slot_listiter_next (wpAny_call_entry slot_listiter_next hit.typeIs entry_listiter_next ?_ (args_listiter_next _)))
  show wpAny (model prog w) A.in1 (field (.ref it) 0 >>= _) _ E s
  refine wpAny_bind (wpAny_field ho hd (x := .ref l) rfl ?_)
  show wpAny (model prog w) A.in1 (if (Value.ref l == Value.none) = true then _ else _) _ E s
  rw [if_neg (show ¬ (Value.ref l == Value.none) = true from fun z => nomatch z)]
  show wpAny (model prog w) A.in1 (field (.ref it) 1 >>= _) _ E s
  refine wpAny_bind (wpAny_field ho hd (x := .int i 0) rfl ?_)
  show wpAny (model prog w) A.in1 (seqItems? (.ref l) >>= _) _ E s
  refine wpAny_bind (wpAny_seqItems hol hdl ?_)
  simp only [Int.toNat_natCast, hx]
  refine wpAny_bind (wpAny_rule (wpAny_bind (wpAny_setField ho hd (by simp) (stopHot (x1 := x1) ?_ fun h' e k he => q h' e (fun b o' nb z => k b o' ?_) he))))
  · exact hotAt_up hot fun o' z => (Heap.get?_update_other _ _ ne.symm).trans z
  · exact (Heap.get?_update_other _ _ (Ne.symm nb)).trans z
theorem zipEndHot {z TI TO i1 i2 l1 l2 x1 : Addr} {k1 k2 : Nat} {xs ys : Array Value} {a b : Value} {Q : Option Value → Shared → Prop} (hot : HotAt A x1 s.heap) (D : ZipApart z TI TO i1 i2 l1 l2)
    (hz : IsZip s.heap z TI TO .none) (hI : IsPair s.heap TI (.ref i1) (.ref i2)) (hO : IsPair s.heap TO a b) (h1 : s.heap.IsListIter i1 l1 k1) (h2 : s.heap.IsListIter i2 l2 k2) (g1 : s.heap.IsList l1 xs) (g2 : s.heap.IsList l2 ys) (en : xs[k1]? = none ∨ ys[k2]? = none)
    (q : ∀ h', (∀ c o, c ≠ z → c ≠ TO → c ≠ i1 → c ≠ i2 → s.heap.get? c = some o → h'.get? c = some o) → Q none { s with heap := h' }) : wpAny (model prog w) A (pyNext (.ref z)) Q E s := by
  have tz : s.TypeIs (.ref z) "zip" := ⟨_, hz, rfl⟩
  have nz : x1 ≠ z := hot_ne hot hz fun vs y => by
    cases y
    simp
  have nO : x1 ≠ TO := hot_ne hot hO fun vs y => by cases y
  have n1 : x1 ≠ i1 := by
    obtain ⟨o, ho, _, hd⟩ := id h1
    exact hot_ne hot ho fun vs y => by
      rw [hd] at y
      cases y
      simp
  unfold pyNext
  -- what the raising leaves
  have fin : ∀ (h' : Heap) (e : Addr), (∀ c o, c ≠ z → c ≠ TO → c ≠ i1 → c ≠ i2 → s.heap.get? c = some o → h'.get? c = some o) → (∃ o, h'.get? e = some o ∧ o.cls = .type "StopIteration") →
      wpAny (model prog w) A (do
        if ← isInstance (.ref e) (.type "StopIteration") then pure none
        else throw (.ref e)) Q E { s with heap := h' } := fun h' e k ⟨o, ho, hc⟩ => by
    refine wpAny_bind (wpAny_isInstance (T := "StopIteration") (b := true) ⟨o, ho, hc⟩ isSubtype_stop ?_)
    exact wpAny_pure (q _ k)
  refine wpAny_bind (wpAny_attempt (wpAny_callSpecial?_slot (name := Str.ofString "__next__") tz F.slot_zip_next (wpAny_call_entry F.slot_zip_next tz F.entry_zip_next ?_ (F.args_zip_next_1 _))))
  show wpAny (model prog w) A.in1 (field (.ref z) 2 >>= _) _ _ s
  refine wpAny_bind (wpAny_field hz rfl (x := .bool false) rfl ?_)
  show wpAny (model prog w) A.in1 (field (.ref z) 3 >>= _) _ _ s
  refine wpAny_bind (wpAny_field hz rfl (x := .ref TI) rfl (wpAny_bind (wpAny_seqItems hI rfl ?_)))
  show wpAny (model prog w) A.in1 (Builtin.SmallTypes.ownedTupleIsFree (.ref z) >>= _) _ _ s
  refine wpAny_bind ?_
  unfold Builtin.SmallTypes.ownedTupleIsFree
  refine wpAny_bind (wpAny_field hz rfl (x := .none) rfl (wpAny_pure ?_))
  simp only [if_true]
  refine wpAny_bind (wpAny_rule (wpAny_bind (wpAny_field hz rfl (x := .ref TO) rfl (wpAny_bind (wpAny_setField_rec hz (by simp) fun j1 hz1 e1 => wpAny_bind ?_)))))
  replace hz1 : IsZip j1 z TI TO .ellipsis := hz1
  have hot1 : HotAt A x1 j1 := hotAt_up hot fun o y => e1.extBut _ _ nz y
  simp only [List.zipIdx_cons, List.zipIdx_nil, List.forIn_cons, List.forIn_nil]
  refine wpAny_bind (wpAny_bind (wpAny_onRaise ?_))
  show wpAny (model prog w) A.in1 (Builtin.SmallTypes.nextOf (.ref i1) >>= _) _ _ _
  cases hx : xs[k1]? with
  | none =>
    refine wpAny_bind (listEndHot (x1 := x1) hot1 (h1.extBut e1.extBut D.i1z) (g1.extBut e1.extBut D.l1z) hx fun j2 e e2 he => ?_)
    obtain ⟨oe, hoe, hce⟩ := he
    have hz2 : IsZip j2 z TI TO .ellipsis := e2 _ _ D.i1z.symm hz1
    have ez : e ≠ z := fun y => by
      rw [y, hz2] at hoe
      cases hoe
      simp at hce
    exact wpAny_setField_rec hz2 (by simp) fun j3 _ e3 => fin j3 e (fun c o c1 _ c3 _ y => e3.extBut _ _ c1 (e2 _ _ c3 (e1.extBut _ _ c1 y))) ⟨oe, e3.extBut _ _ ez hoe, hce⟩
  | some x =>
    have hy : ys[k2]? = none := en.resolve_left fun y => by
      rw [hx] at y
      cases y
    refine wpAny_bind (wpAny_nextOf_list_item (h1.extBut e1.extBut D.i1z) (g1.extBut e1.extBut D.l1z) hx fun j2 _ e2 => wpAny_pure ?_)
    have hO2 : IsPair j2 TO a b := e2.extBut _ _ D.TOi1 (e1.extBut _ _ D.TOz hO)
    refine wpAny_bind (wpAny_seqItems hO2 rfl (wpAny_bind (wpAny_updateSeq_pair hO2 fun j3 hO3 e3 => wpAny_bind (wpAny_letGo (wpAny_pure (wpAny_bind (wpAny_bind (wpAny_onRaise ?_))))))))
    show wpAny (model prog w) A.in1 (Builtin.SmallTypes.nextOf (.ref i2) >>= _) _ _ _
    have hot3 : HotAt A x1 j3 := hotAt_up hot1 fun o y => e3.extBut _ _ nO (e2.extBut _ _ n1 y)
    have i2' := ((h2.extBut e1.extBut D.i2z).extBut e2.extBut D.i12.symm).extBut e3.extBut D.TOi2.symm
    have g2' := ((g2.extBut e1.extBut D.l2z).extBut e2.extBut D.l2i1).extBut e3.extBut D.l2TO
    refine wpAny_bind (listEndHot (x1 := x1) hot3 i2' g2' hy fun j4 e e4 he => ?_)
    obtain ⟨oe, hoe, hce⟩ := he
    have hz4 : IsZip j4 z TI TO .ellipsis := e4 _ _ D.i2z.symm (e3.extBut _ _ D.TOz.symm (e2.extBut _ _ D.i1z.symm hz1))
    have ez : e ≠ z := fun y => by
      rw [y, hz4] at hoe
      cases hoe
      simp at hce
    exact wpAny_setField_rec hz4 (by simp) fun j5 _ e5 => fin j5 e (fun c o c1 c2 c3 c4 y => e5.extBut _ _ c1 (e4 _ _ c4 (e3.extBut _ _ c2 (e2.extBut _ _ c3 (e1.extBut _ _ c1 y))))) ⟨oe, e5.extBut _ _ ez hoe, hce⟩
theorem tupEndHot {it t x1 : Addr} {i : Nat} {items : Array Value} {Q : Option Value → Shared → Prop} (hot : HotAt A x1 s.heap) (hit : IsTupIter s.heap it t i) (ht : IsTup s.heap t items) (hx : items[i]? = none)
    (q : ∀ h', Heap.ExtBut it s.heap h' → Q none { s with heap := h' }) : wpAny (model prog w) A (pyNext (.ref it)) Q E s := by
  obtain ⟨o, ho, hc, hd⟩ := id hit
  obtain ⟨ol, hol, _, nl, hdl⟩ := ht
  have ne : x1 ≠ it := hot_ne hot ho fun vs z => by
    rw [hd] at z
    cases z
    simp
  unfold pyNext
  refine wpAny_bind (wpAny_attempt (wpAny_callSpecial?_slot (name := Str.ofString "__next__") hit.typeIs slot_tupleiter_next (wpAny_call_entry slot_tupleiter_next hit.typeIs entry_tupleiter_next ?_ (args_tupleiter_next _))))
  show wpAny (model prog w) A.in1 (field (.ref it) 0 >>= _) _ _ s
  refine wpAny_bind (wpAny_field ho hd (x := .ref t) rfl ?_)
  show wpAny (model prog w) A.in1 (if (Value.ref t == Value.none) = true then _ else _) _ _ s
  rw [if_neg (show ¬ (Value.ref t == Value.none) = true from fun z => nomatch z)]
  show wpAny (model prog w) A.in1 (field (.ref it) 1 >>= _) _ _ s
  refine wpAny_bind (wpAny_field ho hd (x := .int i 0) rfl ?_)
  show wpAny (model prog w) A.in1 (seqItems? (.ref t) >>= _) _ _ s
  refine wpAny_bind (wpAny_seqItems hol hdl ?_)
  simp only [Int.toNat_natCast, hx]
  refine wpAny_bind (wpAny_rule (wpAny_bind (wpAny_setField ho hd (by simp) (stopHot (x1 := x1) ?_ fun h' e k he => ?_))))
  · exact hotAt_up hot fun o' z => (Heap.get?_update_other _ _ ne.symm).trans z
  · obtain ⟨oe, hoe, hce⟩ := he
    refine wpAny_bind (wpAny_isInstance (T := "StopIteration") (b := true) ⟨oe, hoe, hce⟩ isSubtype_stop ?_)
    exact wpAny_pure (q _ fun b o' nb z => k b o' ((Heap.get?_update_other _ _ (Ne.symm nb)).trans z))
theorem unpackHot {t x1 : Addr} {items : Array Value} {Q : List Value → Shared → Prop} (hot : HotAt A x1 s.heap) (ht : IsTup s.heap t items) (q : ∀ h', Heap.ExtBut s.heap.objs.size s.heap h' → Q items.toList { s with heap := h' }) :
    wpAny (model prog w) A (unpackItems (.ref t) items.size none) Q E s := by
  obtain ⟨ot, got, _⟩ := id ht
  have lt : t ≠ s.heap.objs.size := Nat.ne_of_lt (Heap.lt_size got)
  obtain ⟨_, o1, _, gx, _, _⟩ := id hot
  have lx : x1 ≠ s.heap.objs.size := Nat.ne_of_lt (Heap.lt_size gx)
  unfold unpackItems
  refine wpAny_bind ?_
  unfold notIterableAtAll
  refine wpAny_bind (wpAny_specialOf ht.typeIs slot_tuple_iter.lookup (wpAny_pure ?_))
  simp only [Bool.false_eq_true, if_false]
  refine wpAny_bind (wpAny_holding (iter_tuple ht (wpAny_bind (wpAny_holding (draw_tuple lt items.size 0 _ _ ⟨_, Heap.get?_push_size _ rfl, rfl, rfl⟩ (ht.push _) (by omega) fun j1 it1 e1 => ?_)))))
  rw [List.drop_zero, List.take_of_length_le (show items.toList.length ≤ items.size by simp), if_neg (by simp)]
  have ht1 : IsTup j1 t items := (ht.push _).extBut e1.extBut lt
  have hot1 : HotAt A x1 j1 := hotAt_up hot fun o z => e1.extBut _ _ lx (Heap.get?_push_of_some _ z)
  refine wpAny_bind (wpAny_holding (tupEndHot (x1 := x1) hot1 it1 ht1 (by simp) fun j2 e2 => ?_))
  simp only [Option.isSome_none, Bool.false_eq_true, if_false]
  exact wpAny_pure (q j2 fun b o nb z => e2 b o nb (e1.extBut b o nb (Heap.get?_push_of_some _ z)))
theorem assignHot {env : Env} {elts : List Expr} {k1} {pos : Pos} {t x1 : Addr} {items : Array Value} {Q : Unit → Shared → Prop} (hot : HotAt A x1 s.heap) (ht : IsTup s.heap t items) (hn : (assignEach elts env).length = items.size) (hst : (assignEach elts env).findIdx? (·.1) = none)
    (q : ∀ h', Heap.ExtBut s.heap.objs.size s.heap h' → wpAny (model prog w) A (assignInOrder ((assignEach elts env).map (·.2)) items.toList) Q E { s with heap := h' }) : wpAny (model prog w) A (assign (.Tuple elts k1 pos) env (.ref t)) Q E s := by
  rw [assign_Tuple]
  refine wpAny_bind (wpAny_standAt ?_)
  unfold unpack
  rw [hn, hst]
  exact wpAny_bind (wpAny_holding (unpackHot hot ht q))
end
end HT

/-! Rules for a def that is called while an exception is handled: unpacking, zip, a list comprehension, isinstance of the handled exception. -/
namespace HT
open PySem PySem.Spec PyProof.Rows L2 HotX L2H
section
variable {X : Cx}
theorem pg_tupH {es : List Expr} {k : Nat} {t : TGs} {n : Nat} {pos : Pos} (hot : HotC X) (pg : PGs X es t) (hn : (assignEach es X.env).length = n := by rfl) (hst : (assignEach es X.env).findIdx? (·.1) = none := by rfl) :
    PG X (.Tuple es k pos) (gTup X.K n t) := by
  refine ⟨fun pins s σ H v u Q I r hw => ?_⟩
  obtain ⟨a, xs, rfl, ha, hl, hw⟩ := hw
  cases r
  obtain ⟨its, rv, ht, _⟩ := I.tuple ha
  obtain ⟨x1, at1⟩ := hot.at I
  refine assignHot at1 ht (by simp [hn, ← hl, rv.length]) hst fun h' k' => ?_
  refine pg.run pins _ σ H xs _ Q (I.kept (t' := s.toks) fun b o e => k' b o (Nat.ne_of_lt (Heap.lt_size e)) e) (by simpa using rv) hw
theorem zipTurnHot {P : Program} {w : World} {K : PySem.W.Frag} {es : List Expr} {kk : Nat} {tp : Pos} {a b z TI TO i1 i2 : Addr} (D : ZipApart z TI TO i1 i2 a b) :
    TurnH P w K (.Tuple es kk tp) (Itz K a b) [z, TI, TO, i1, i2] z (fun i h => IsZip h z TI TO .none ∧ IsPair h TI (.ref i1) (.ref i2) ∧ (∃ x y, IsPair h TO x y) ∧ h.IsListIter i1 a i ∧ h.IsListIter i2 b i) := by
  have T0 := turn_zip (P := P) (w := w) (K := K) (elts := es) (kk := kk) (tpos := tp) D
  refine ⟨T0.mem, T0.obj, T0.keep, ?_, ?_, T0.self⟩
  · intro X eP ew eK hc i pins s σ H E I hf st hg
    subst eP ew eK
    obtain ⟨st1, st2, ⟨x0, y0, st3⟩, st4, st5⟩ := st
    obtain ⟨xs, ys, x, y, qx, qy, gx, gy⟩ := hg
    obtain ⟨vs, rv, p, _⟩ := I.list qx
    obtain ⟨ws, rw', p2, _⟩ := I.list qy
    obtain ⟨u, gu, ru⟩ := rv.get gx
    obtain ⟨u2, gu2, ru2⟩ := rw'.get gy
    have lz : z < s.heap.objs.size := Heap.lt_size st1
    have nin : ∀ {c : Addr}, c ∉ [z, TI, TO, i1, i2] → c ≠ z ∧ c ≠ TI ∧ c ≠ TO ∧ c ≠ i1 ∧ c ≠ i2 := fun {c} h => by simpa using h
    refine wpAny_pyNext_zip_item D st1 st2 st3 st4 st5 p.isList p2.isList (x := u) (y := u2) (by simpa using gu) (by simpa using gu2) fun j1 e1 e3 e4 e5 e6 ez kj => ?_
    refine ⟨_, rfl, wpAny_letOwnedTupleGo_zip (s := { s with heap := j1 }) e1 fun j2 f1 sb => ?_⟩
    have tup : j2.get? s.heap.objs.size = some { cls := .type "tuple", data := .seq #[u, u2] } := (sb.2 _ (Nat.ne_of_gt lz)).trans e6
    have obj : ObjOk X.prog X.w (upd H s.heap.objs.size (.tup [x, y])) j2 s.heap.objs.size (.tup [x, y]) := ⟨by show 2 ≤ sizeLine; decide, [u, u2], .cons ru (.cons ru2 .nil), ⟨_, tup, rfl, _, rfl⟩⟩
    have I1 := I.turnedNew (t' := s.toks) (ch := [z, TI, TO, i1, i2]) (fun c o hb g => (sb.2 c (nin hb).1).trans (kj c o (nin hb).1 (nin hb).2.2.1 (nin hb).2.2.2.1 (nin hb).2.2.2.2 g)) hf (Nat.le_refl _) obj
    refine ⟨.ref s.heap.objs.size, _, I1, rfl, ⟨_, x, y, rfl, I.hok.fresh (Nat.le_refl _), rfl, fun l hl => by rw [I.list_inj hl qx]; exact gx, fun l hl => by rw [I.list_inj hl qy]; exact gy⟩,
      ⟨f1, (sb.2 _ D.TIz).trans (kj _ _ D.TIz D.TITO D.TIi1 D.TIi2 st2), ⟨u, u2, (sb.2 _ D.TOz).trans e3⟩, e4.at fun o g => (sb.2 _ D.i1z).trans g, e5.at fun o g => (sb.2 _ D.i2z).trans g⟩, fun c hc' => ?_⟩
    obtain ⟨o, g, _⟩ := T0.obj i s.heap ⟨st1, st2, ⟨x0, y0, st3⟩, st4, st5⟩ c hc'
    rw [upd_ne (Nat.ne_of_lt (Heap.lt_size g))]
    exact (hf c hc').1
  · intro X eP ew eK hc i pins s σ H E I hf st hg
    subst eP ew eK
    obtain ⟨st1, st2, ⟨x0, y0, st3⟩, st4, st5⟩ := st
    obtain ⟨xs, ys, qx, qy, en⟩ := hg
    obtain ⟨vs, rv, p, _⟩ := I.list qx
    obtain ⟨ws, rw', p2, _⟩ := I.list qy
    obtain ⟨x1, at1⟩ := hc.at I
    have en' : vs.toArray[i]? = none ∨ ws.toArray[i]? = none := by
      have l1 := rv.length
      have l2 := rw'.length
      rcases en with g | g
      · exact .inl (by simp; omega)
      · exact .inr (by simp; omega)
    have nin : ∀ {c : Addr}, c ∉ [z, TI, TO, i1, i2] → c ≠ z ∧ c ≠ TI ∧ c ≠ TO ∧ c ≠ i1 ∧ c ≠ i2 := fun {c} h => by simpa using h
    exact zipEndHot at1 D st1 st2 st3 st4 st5 p.isList p2.isList en' fun j kj => ⟨rfl, I.turnedL (t' := s.toks) (ch := [z, TI, TO, i1, i2]) (fun c o hb g => kj c o (nin hb).1 (nin hb).2.2.1 (nin hb).2.2.2.1 (nin hb).2.2.2.2 g) hf⟩
theorem pi_zipH {e e2 : Expr} {ta : TA} {p pos tp : Pos} {es : List Expr} {kk : Nat} (hg : Gl X "zip") (hm : X.mg "zip" = none) (ha : PA X [e, e2] ta)
    (hs : starEach [e, e2] X.env = (false, eval e X.env) :: starEach [e2] X.env := by rfl) (hpl : (backTo pos (starEach [e2] X.env)).any (·.1) = false := by rfl) :
    PIH X (.Tuple es kk tp) (.Call (.Name "zip" p) [e, e2] [] pos) (iZip X.K ta) := by
  refine ⟨fun pins s σ H R I h => ?_⟩
  refine Call_ (ld_blt I hg hm PyProof.Rows.boot_zip (PyProof.Rows.callWith_type1 (thn (ha.run pos pins s σ H _ I h) fun us s1 ⟨vs, H1, I1, rr, a, b, xs, ys, ex, qx, qy, q⟩ => ?_) hs hpl))
  subst ex
  obtain ⟨u1, u2, rfl, rfl, rfl⟩ : ∃ u1 u2, us = [u1, u2] ∧ u1 = Value.ref a ∧ u2 = Value.ref b := by
    cases rr with
    | cons r1 rr =>
      cases rr with
      | cons r2 rr =>
        cases rr
        exact ⟨_, _, rfl, r1, r2⟩
  obtain ⟨_, _, p1, _⟩ := I1.list qx
  obtain ⟨_, _, p2, _⟩ := I1.list qy
  refine call_zip_2 p1.isList p2.isList fun j g1 g2 g3 g4 g5 gz kj => wpAny_pyIter_zip g1 ?_
  refine ⟨s1.heap.objs.size + 4, [s1.heap.objs.size + 4, s1.heap.objs.size + 2, s1.heap.objs.size + 3, s1.heap.objs.size, s1.heap.objs.size + 1], _, _, H1, rfl, I1.kept (t' := s1.toks) kj, zipTurnHot (PySem.W.ktu_apart s1.heap.objs.size a b p1.lt p2.lt), ⟨g1, g2, ⟨_, _, g3⟩, g4, g5⟩, fun c hc => ?_, q⟩
  have le : s1.heap.objs.size ≤ c := by
    have y : c = s1.heap.objs.size + 4 ∨ c = s1.heap.objs.size + 2 ∨ c = s1.heap.objs.size + 3 ∨ c = s1.heap.objs.size ∨ c = s1.heap.objs.size + 1 := by simpa using hc
    rcases y with y | y | y | y | y <;> rw [y] <;> first | exact Nat.le_refl _ | exact Nat.le_add_right _ _
  exact I1.fpOk le (I1.hok.fresh le)
/-- the block of a comprehension, the pinned ones of the def in it -/
abbrev hblk (X : Cx) (s : Shared) (H : Hp) (scope : Scope) (ce : Env) (fp : List Addr) : Cx := { X.blk s H scope ce fp with pn := X.pn }
theorem HotC.blk (h : HotC X) {s : Shared} {H : Hp} {scope : Scope} {ce : Env} {fp : List Addr} : HotC (hblk X s H scope ce fp) := h
theorem inv_hblk {s0 s : Shared} {H0 H : Hp} {scope : Scope} {ce : Env} {fp : List Addr} {σ : L2.St} (I : Inv (X.blk s0 H0 scope ce fp) [] σ H s) (hp : ∀ p ∈ X.pn, s.heap.get? p.1 = some p.2 ∧ H p.1 = none ∧ p.1 ≠ ce.locals ∧ p.1 ∉ frs X.stack ∧ ∀ v, p.2.data ≠ .cell v) :
    Inv (hblk X s0 H0 scope ce fp) [] σ H s :=
  ⟨⟨I.ok.mod, I.ok.kind, I.ok.glob, I.ok.blt, I.ok.above, I.ok.inj, I.ok.has, I.ok.cab, I.ok.hd, I.ok.frames, I.ok.stk, I.ok.exf, I.ok.bs, I.ok.bsz, I.ok.noex, I.ok.exfs, I.ok.funs, I.ok.frf⟩, I.os, I.bare, I.base, I.loc, I.cell, I.free, I.freeC,
    fun p hq => hp p (by rw [List.append_nil] at hq; exact hq), I.hok, I.len⟩
/-- a list comprehension there -/
theorem pe_lcH {elt tg iter : Expr} {ifs : List Expr} {scope : Scope} {own : List (Str × Nat)} {pos : Pos} {wi : TI} {g : TG} {tt : TT} {te : TE} (hot : HotC X) (nd : X.N.Nodup) (hi : PIH X tg iter wi) (ok : BlkOk X.N X.env.scope scope own)
    (pg : ∀ (s : Shared) (H : Hp) (C : Addr) (cl : List (Str × Addr)) (fp : List Addr), PG (hblk X s H scope (compEnvC scope cl C X.env) fp) tg g) (pt : ∀ (s : Shared) (H : Hp) (C : Addr) (cl : List (Str × Addr)) (fp : List Addr), PTs (hblk X s H scope (compEnvC scope cl C X.env) fp) ifs tt)
    (pe : ∀ (s : Shared) (H : Hp) (C : Addr) (cl : List (Str × Addr)) (fp : List Addr), PE (hblk X s H scope (compEnvC scope cl C X.env) fp) elt te) (hs : ∀ x, foldedSetIterable iter X.env x = pure x := by intro _; rfl) :
    PE X (.ListComp elt [⟨tg, iter, ifs, 0⟩] scope pos) (tLc wi g tt te (own.map (·.2))) := by
  refine ⟨fun pins s σ H Q I h => ?_⟩
  rw [eval_ListComp]
  have hfree : ∀ y ∈ scope.names, y.2 = .free → ∃ c, X.env.cells.lookup y.1 = some c := fun y hy e => (ok.free y hy e).elim (fun k => I.ok.has _ (.inl k)) fun k => I.ok.has _ (.inr k)
  refine wpAny_comprehension_free (use := none) rfl hs (closure_ok hfree) ok.kind (fun y hy e => (ok.uniq y hy).trans (congrArg some e)) (thn (hi.run pins s σ H _ I h) fun xv s1 hx => thn hx fun itv s2 h2 => ?_)
  obtain ⟨it, fp, tn, J, H2, rfl, I2, T, t2, f2, q⟩ := h2
  refine wpAny_newObj_type (newEnv_comp ?_) (by show 0 ≤ sizeLine; decide)
  generalize eD : s2.heap.objs.size = D
  have nD : H2 D = none := I2.hok.fresh (Nat.le_of_eq eD)
  obtain ⟨W, ⟨m0, w0⟩, turn⟩ := q D nD
  generalize e3 : ({ s2 with heap := s2.heap.push { cls := .type "list", data := .seq ([] : List Value).toArray } } : Shared) = s3
  have h3 : s3.heap = s2.heap.push { cls := .type "list", data := .seq ([] : List Value).toArray } := by rw [← e3]
  have I3 : Inv X pins σ (upd H2 D (.lst [])) s3 := by
    rw [← e3]
    refine I2.laid (t' := s2.toks) (fun b o e => Heap.get?_push_of_some _ e) (Nat.le_of_eq eD) ⟨Nat.zero_le _, [], 0, .nil, ?_⟩
    rw [← eD]
    exact Heap.get?_push_size _ rfl
  have f3 : ∀ b ∈ fp, FpOk X pins (upd H2 D (.lst [])) b ∧ b < s3.heap.objs.size := fun b hb => by
    obtain ⟨o, e, _⟩ := T.obj _ _ t2 b hb
    have lt := Heap.lt_size e
    refine ⟨⟨?_, (f2 b hb).2⟩, by rw [h3, Heap.size_push]; exact Nat.lt_succ_of_lt lt⟩
    rw [upd_ne (by rw [← eD]; exact Nat.ne_of_lt lt)]
    exact (f2 b hb).1
  have t3 : tn 0 s3.heap := T.keep _ _ _ t2 fun b _ o e => by rw [h3]; exact Heap.get?_push_of_some _ e
  have I4 := block_start I3 ok nd f3
  have pg := pg s3 (upd H2 D (.lst [])) s3.heap.objs.size (cellsFrom (s3.heap.objs.size + 1) scope.names (cloFrom X.env.cells scope.names [])) fp
  have pt := pt s3 (upd H2 D (.lst [])) s3.heap.objs.size (cellsFrom (s3.heap.objs.size + 1) scope.names (cloFrom X.env.cells scope.names [])) fp
  have pe := pe s3 (upd H2 D (.lst [])) s3.heap.objs.size (cellsFrom (s3.heap.objs.size + 1) scope.names (cloFrom X.env.cells scope.names [])) fp
  show codeAny (model X.prog X.w) X.A (.compStart (.ListComp elt [⟨tg, iter, ifs, 0⟩] scope pos) 0 (.ref it) (.ref D) (compEnvC scope (cellsFrom (s3.heap.objs.size + 1) scope.names (cloFrom X.env.cells scope.names [])) s3.heap.objs.size X.env)) _ { s3 with heap := pushCells (s3.heap.push { cls := .type "dict", data := .dict #[] }) scope.names }
  generalize ece : compEnvC scope (cellsFrom (s3.heap.objs.size + 1) scope.names (cloFrom X.env.cells scope.names [])) s3.heap.objs.size X.env = ce at I4 pg pt pe ⊢
  have cL : ce.locals = s3.heap.objs.size := by rw [← ece]; rfl
  have cL' : (compEnvC scope (cellsFrom (s3.heap.objs.size + 1) scope.names (cloFrom X.env.cells scope.names [])) s3.heap.objs.size X.env).locals = s3.heap.objs.size := rfl
  generalize eH : upd H2 D (.lst []) = H3 at I3 I4 pg pt pe w0 f3
  generalize e4 : ({ s3 with heap := pushCells (s3.heap.push { cls := .type "dict", data := .dict #[] }) scope.names } : Shared) = s4 at I4 ⊢
  have k34 : ∀ b o, s3.heap.get? b = some o → s4.heap.get? b = some o := fun b o e => by
    rw [← e4]
    exact pushCells_keeps _ _ _ _ (Heap.get?_push_of_some _ e)
  have t4 : tn 0 s4.heap := T.keep _ _ _ t3 fun b _ o e => k34 b o e
  have J4 : Inv (hblk X s3 H3 scope ce fp) [] (wipe σ (own.map (·.2))) H3 s4 := inv_hblk I4 fun p hp => by
    obtain ⟨a1, a2, a3, a4, a5⟩ := I3.pin p (List.mem_append_left _ hp)
    exact ⟨k34 _ _ a1, a2, by rw [cL]; exact Nat.ne_of_lt (Heap.lt_size a1), fun hm => (List.mem_cons.mp (I3.stkSub p.1 hm)).elim a3 a4, a5⟩
  have stat : ∀ {σ' : L2.St} {H' : Hp} {s' : Shared}, Inv (hblk X s3 H3 scope ce fp) [] σ' H' s' → (∀ b ∈ fp, H' b = none) → ∀ b ∈ fp, FpOk (hblk X s3 H3 scope ce fp) [] H' b := fun {σ' H' s'} I' hn b hb =>
    ⟨hn b hb, (I'.ok.exf b hb).1, I'.ok.exfs b hb, .inl hb, fun x c e => (I'.ok.exf b hb).2 x c e, fun p hp => (f3 b hb).1.2.2.2.2.2 p (List.mem_append_left _ (by rw [List.append_nil] at hp; exact hp))⟩
  have loop : codeAny (model X.prog X.w) X.A (.compLoop (.ListComp elt [⟨tg, iter, ifs, 0⟩] scope pos) 0 (.ref it) (.ref D) ce) (compPost (model X.prog X.w) X.A X.xe none (EP X pins σ Q) (.ref D) s3.heap.objs.size) s4 := by
    refine compLoop_any (fun n s' => ∃ i H', Inv (hblk X s3 H3 scope ce fp) [] (wipe σ (own.map (·.2))) H' s' ∧ tn i s'.heap ∧ (∀ b ∈ fp, H' b = none) ∧ W i n H') ?_ m0 ⟨0, H3, J4, t4, fun b hb => (f3 b hb).1.1, w0⟩
    rintro n s5 ⟨i, H5, I5, t5, n5, w5⟩
    rcases turn i n H5 w5 with ⟨stop, qq⟩ | ⟨go, Nx, hNx, step⟩
    · refine thnF (T.done (hblk X s3 H3 scope ce fp) rfl rfl rfl hot i [] s5 _ H5 (fun _ _ => False) I5 (stat I5 n5) t5 stop) fun r s6 ⟨er, I6⟩ => ?_
      subst er
      have I7 : Inv X pins σ H5 s6 := I3.call' (ch := fp) I6.os I6.base I6.hok I6.bare fun b hb => let z := (f3 b hb).1; ⟨z.2.2.2.1, z.2.1, z.2.2.2.2.1, z.2.2.2.2.2⟩
      have nC : H5 s3.heap.objs.size = none := (congrArg H5 cL).symm.trans I6.free
      obtain ⟨m, hn, _⟩ := I6.loc
      obtain ⟨c0, c1, c2, c3, c4, c5⟩ := I3.fpOk (Nat.le_refl _) nC
      exact ⟨m, cL ▸ hn, fun h'' sb => ⟨.ref D, H5, I7.turned (t' := s6.toks) (fun b o hb e => (sb.2 b hb).trans e) c0 c1 c3 c4 c5, rfl, qq⟩⟩
    · refine thnF (T.item (hblk X s3 H3 scope ce fp) rfl rfl rfl hot i [] s5 _ H5 (fun _ _ => False) I5 (stat I5 n5) t5 go) fun r s6 ⟨u, er, h6⟩ => ?_
      subst er
      refine thnF h6 fun _ s7 ⟨x, H7, I7, r7, y7, t7, n7⟩ => ?_
      refine thnF (pg.run _ s7 _ H7 x u _ (I7.pinned (stat I7 n7) (T.obj _ _ t7)) r7 (step x H7 y7)) fun _ s8 ⟨σ8, H8, I8, w8, q8⟩ => ?_
      refine thnF (pt.run _ s8 σ8 H8 _ I8 q8) fun b s9 ⟨H9, I9, q9⟩ => ?_
      have fin : ∀ {s' : Shared} {H' : Hp}, Inv (hblk X s3 H3 scope ce fp) ([] ++ pinsAt fp s7.heap) σ8 H' s' → Nx H' → ∃ m, m < n ∧ ∃ i H', Inv (hblk X s3 H3 scope ce fp) [] (wipe σ (own.map (·.2))) H' s' ∧ tn i s'.heap ∧ (∀ b ∈ fp, H' b = none) ∧ W i m H' := fun {s' H'} I' nx => by
        obtain ⟨m', lt, w'⟩ := hNx H' nx
        have pin' : ∀ b ∈ fp, ∀ o, s7.heap.get? b = some o → s'.heap.get? b = some o ∧ H' b = none := fun b hb o e => let z := I'.pin (b, o) (List.mem_append_right _ (List.mem_append_right _ (mem_pinsAt hb e))); ⟨z.1, z.2.1⟩
        refine ⟨m', lt, i + 1, H', (I'.unpinned (pins := [])).weak (by rw [← w8, wipe_length]) (fun j v e => (wipe_some (by rw [← w8] at e; exact e)).1), T.keep _ _ _ t7 fun b hb o e => (pin' b hb o e).1, fun b hb => ?_, w'⟩
        obtain ⟨o, e, _⟩ := T.obj _ _ t7 b hb
        exact (pin' b hb o e).2
      cases b with
      | false =>
        simp only [Bool.false_eq_true, if_false] at q9 ⊢
        exact fin I9 q9
      | true =>
        simp only [if_true] at q9 ⊢
        refine thnF (pe.run _ s9 σ8 H9 _ I9 q9) fun z s10 ⟨yv, H10, I10, r10, acc, d10, z10, nx⟩ => ?_
        exact app_ok (X := hblk X s3 H3 scope ce fp) I10 d10 z10 r10 fun s11 I11 => fin I11 nx
  exact codeAny_compStart_list loop (T.self X.A 0 _ _ _ t4 loop)
/-- isinstance(e, c), e the exception p that the context holds -/
theorem call_isH {a D : Addr} {oe : Obj} (C : ExcC X.K D) (hz : Zc (.ref D) none oe) (hf : ∃ vs, oe.data = .fields vs) (hp : (a, oe) ∈ X.pn) : CallR X (.builtin "isinstance") (rIsE X.K D a) := by
  intro pins s σ H xs us Q I r h
  obtain ⟨c, cv, b, rfl, hcv, e, q⟩ := h
  obtain ⟨u1, u2, rfl, rfl, r2⟩ : ∃ u1 u2, us = [u1, u2] ∧ u1 = Value.ref a ∧ RelV c u2 := by
    cases r with
    | cons r1 rr =>
      cases rr with
      | cons r2 rr =>
        cases rr
        exact ⟨_, _, rfl, r1, r2⟩
  have ec := hcv _ r2
  subst ec
  obtain ⟨get, _⟩ := I.pin (a, oe) (List.mem_append_left _ hp)
  obtain ⟨vs, hv⟩ := hf
  have J : PySem.W.InstAt s.heap a oe D none := by
    obtain ⟨oc, od, oda, osl⟩ := oe
    obtain ⟨h1, h2⟩ := hz
    dsimp only at h1 h2 hv
    subst h1 h2 hv
    exact ⟨get, rfl, rfl, trivial⟩
  exact PySem.W.kia_one (PySem.W.handS_kitx_exc C.hg C.hk C.hs C.hd C.ha C.hn C.ht C.hm) I.kIn J e (fun z => nomatch z) fun tk => ⟨.bl b, H, I.kept (t' := tk) fun _ _ z => z, rfl, q⟩
end
end HT

/-! A lambda without parameters handed to a def that handles what it raises, its context known to be None; a def that is called with the handled exception. -/
namespace HT
open PySem PySem.Spec PyProof.Rows L2 HotX L2H LamX
/-! ### defs that raise where nothing is handled -/
abbrev CXn (P : Program) (w : World) : CXT := L2N.CX P w
theorem funX {P : Program} {w : World} {K : PySem.W.Frag} {mg : Str → Option Value} {base : Heap} {x qual : Str} {st : Stmt} {f : Addr} {fd : FuncData} {N ps : List Str} {k : Nat} {sp : Sp}
    (F : Fun K x qual st f fd) (S : FnScope N ps (defScope st)) (len : ∀ vs H Q E, sp vs H Q E → vs.length = ps.length)
    (go : ∀ (cdv : Value) (A : Around) (outer : List Env) (s : Shared) (H : Hp) (vs : List V) (Q : VK) (E : XK), Room k (A.deeper (envOfC qual (defScope st) s.heap.objs.size f cdv)) → sp vs H Q E →
      ∃ t, PSs (cxOf (CXn P w) P w K mg base N qual (defScope st) f cdv A outer s H E) (defBody st) t ∧ t { nx := fun _ H' => Q .non H', rt := Q } (L2.start N vs) H) :
    FnOk P w K mg base (CXn P w) (k + 1) f fd ps sp := by
  obtain ⟨oc, od, kV, doc, pm, an, cdv, ct, osl, rfl, lk, hcd⟩ := F.ex
  exact fn_of lk hcd S len (go cdv)
/-- what a callee lets out is let out -/
theorem passN {X : Cx} {E : XK} {W : WX} (tk : L2N.Takes X W) (h : ∀ cls d σ H, E cls d H → W cls d σ H) : Passes (CXn X.prog X.w) X E := L2N.passes_call tk h
/-! ### the lambda -/
section
variable {X : Cx}
/-- what leaves the frame env, entered at s from outer -/
abbrev goesN (X : Cx) (A : Around) (env : Env) (outer : List Env) (H : Hp) (s : Shared) (E : XK) : Value → Shared → Prop := fun e s1 =>
  wpAny (model X.prog X.w) (A.deeper env) (leaving env e) (fun _ s2 => CXn X.prog X.w outer H s E e s2) (fun e2 s2 => CXn X.prog X.w outer H s E e2 s2) s1
/-- the lambda's body, as lamCx has it, but for what it lets out -/
abbrev lamN (X : Cx) (A : Around) (outer : List Env) (s : Shared) (H : Hp) (E : XK) (sc : Scope) (f c : Addr) : Cx :=
  (lamCx X A outer s H E sc f c).tr [] (goesN X A (lamEnv X sc s.heap.objs.size f c) outer H s E)
theorem takesL {A : Around} {outer : List Env} {s : Shared} {H : Hp} {E : XK} {sc : Scope} {f c : Addr} : L2N.Takes (lamN X A outer s H E sc f c) (fun cls d _ H => E cls d H) := L2N.takes_of rfl rfl rfl rfl
theorem passL {A : Around} {outer : List Env} {s : Shared} {H : Hp} {E : XK} {sc : Scope} {f c : Addr} : Passes (CXn X.prog X.w) (lamN X A outer s H E sc f c) E := L2N.passes_call takesL fun _ _ _ _ h => h
/-- the def that got the lambda, entered at s -/
abbrev gotCx (X : Cx) (Ng : List Str) (x : Str) (sg : Scope) (g : Addr) (cdg : Value) (s : Shared) (H : Hp) : Cx := cxOf C8.CX0 X.prog X.w X.K X.mg X.base Ng x sg g cdg X.A X.stack s H C8.E0
/-- what a call of the lambda reads there -/
abbrev tAct (f c : Addr) (q : Str) (W : WX) (E : XK) (t : Hp → VK → Prop) : TE := fun σ H Q => σ[0]? = some (some (.ref f)) ∧ H c = some (CodeO c q) ∧ (∀ cls d H1, E cls d H1 → W cls d σ H1) ∧ t H Q
theorem actN {pins : List (Addr × Obj)} {σ : L2.St} {H : Hp} {s : Shared} {Ng : List Str} {qg : Str} {sg : Scope} {g f c : Addr} {cdg pm ctv : Value} {prm : Arguments} {body : Expr} {sc : Scope} {k : Nat} {a : Str} {pn : List (Addr × Obj)} {xe : Value → Shared → Prop}
    {W : WX} {E : XK} {tb : TE} {p1 p2 : Pos} (I : Inv X pins σ H s) (L : LamS X.env.scope sc)
    (hf : s.heap.get? f = some (PySem.W.kla_obj "<lambda>" (X.env.qual ++ "<lambda>") prm body sc (cloFrom X.env.cells sc.names []) pm c ctv)) (n1 : H f = none) (n2 : f ∉ frs X.stack)
    (hb : bindArgs (PySem.W.kla_fn "<lambda>" (X.env.qual ++ "<lambda>") prm body sc (cloFrom X.env.cells sc.names []) pm (.ref c) ctv) ⟨[], []⟩ = pure [])
    (tk : L2N.Takes ((gotCx X Ng qg sg g cdg s H).tr pn xe) W) (hr : Room (k + 1) (X.A.deeper (envOfC qg sg s.heap.objs.size g cdg)))
    (run : ∀ (A : Around) (outer : List Env) (s : Shared) (H : Hp), Room k (A.deeper (lamEnv X sc s.heap.objs.size f c)) → PE (lamN X A outer s H E sc f c) body tb)
    (hN : Ng[0]? = some a) (hv : Vis sg a) (h1 : (a == ("__debug__" : Str)) = false) (h2 : (a == ("__classdict__" : Str)) = false) :
    PE ((gotCx X Ng qg sg g cdg s H).tr pn xe) (.Call (.Name a p1) [] [] p2) (tAct f c (X.env.qual ++ "<lambda>") W E (tb σ)) := by
  refine ⟨fun pinsZ sZ σZ HZ Q IZ ⟨hs, hc, hW, ht⟩ => ?_⟩
  have look := (pe_var (pos := p1) (i := 0) hN hv h1 h2).run pinsZ sZ σZ HZ (fun v H1 => v = .ref f ∧ H1 = HZ) IZ ⟨.ref f, hs, rfl, rfl⟩
  refine wpAny_Call_Name_kw (thn look fun u s1 ⟨v, H1, I1, r1, ev, eH⟩ => ?_)
  subst ev
  rw [eH] at I1
  obtain rfl : u = Value.ref f := r1
  have at1 := I1.base.keep f _ hf n1 n2 fun z => nomatch (show f ∈ ([] : List Addr) from z)
  refine PySem.W.callWith_F0 ⟨_, _, _, _, at1⟩ ?_
  obtain ⟨⟨oc, vs, t, hoc, hdc, hvc⟩, _, _⟩ := I1.hok c _ hc
  have rc : codeAny (model X.prog X.w) (X.A.deeper (envOfC qg sg s.heap.objs.size g cdg)) (.call (.ref f) ⟨[], []⟩)
      (CR (CXn X.prog X.w) (envOfC qg sg s.heap.objs.size g cdg :: X.stack) X.prog X.w HZ s1 Q E) s1 := by
    refine PySem.W.kla_callFunE hr.depth at1 rfl L.co L.gen rfl ⟨c, oc, vs, t, rfl, hoc, hdc, hvc⟩ ?_
    rw [hb]
    refine wpAny_pure (wpAny_newFunctionEnv (fun y hy => (L.own y hy).2) (fun y hy => absurd hy (by simp)) (fun j ns sb => ⟨I1.nolimit.fresh _ sb, ?_⟩) L.kind)
    have kp : ∀ b o, s1.heap.get? b = some o → j.get? b = some o := fun b o e => sb.extBut b o (Nat.ne_of_lt (Heap.lt_size e)) (Heap.get?_push_of_some _ e)
    have J := (lam_start2 (E := E) (f := f) (c' := c) (tk := s1.toks + ([] : List (Str × Value)).length) I L I1.env0 hr.hd I1.base ns kp).toTry
      (goesN X (X.A.deeper (envOfC qg sg s.heap.objs.size g cdg)) (lamEnv X sc s1.heap.objs.size f c) (envOfC qg sg s.heap.objs.size g cdg :: X.stack) HZ s1 E)
    refine PySem.W.kla_codeExpr (wpAny_mono ((run _ _ s1 HZ (hr.deeper _)).run [] _ _ HZ Q J ht) (fun v s2 ⟨w2, H2, J2, r2, q2⟩ => ?_) fun e s2 hq => hq)
    exact ⟨w2, H2, J2.os, J2.bare, J2.base, J2.hok, r2, q2⟩
  refine wpAny_call (codeAny_mono rc fun r s2 hq => ?_)
  match r, hq with
  | .error e, hq => exact tk e s2 (L2N.XE.of_call I1 hW hq)
  | .ok (.ret u), hq => exact I1.after hq
  | .ok .next, hq => exact False.elim hq
  | .ok .brk, hq => exact False.elim hq
  | .ok .cont, hq => exact False.elim hq
/-- the def that got the lambda runs it: TT is what it makes of the lambda's reading -/
def GetsN (X : Cx) (Ng : List Str) (x : Str) (sg : Scope) (g : Addr) (cdg : Value) (bg : List Stmt) (a q : Str) (TT : (XK → Hp → VK → Prop) → Hp → VK → Prop) : Prop :=
  ∀ (f c : Addr) (s : Shared) (H : Hp) (Q : VK) (tl : XK → Hp → VK → Prop),
    (∀ (W : WX) (pn : List (Addr × Obj)) (xe : Value → Shared → Prop) (E : XK) (p1 p2 : Pos), L2N.Takes ((gotCx X Ng x sg g cdg s H).tr pn xe) W →
      PE ((gotCx X Ng x sg g cdg s H).tr pn xe) (.Call (.Name a p1) [] [] p2) (tAct f c q W E (tl E))) →
    H c = some (CodeO c q) → TT tl H Q →
    ∃ t, PSs (gotCx X Ng x sg g cdg s H).nox bg t ∧ t { nx := fun _ H1 => Q .non H1, rt := Q } (L2.start Ng [.ref f]) H
/-- x(lambda: body) -/
theorem pe_lamN {T : List (Addr × Str)} {TT : (XK → Hp → VK → Prop) → Hp → VK → Prop} {x a : Str} {g c P : Addr} {k : Nat} {pg : Arguments} {bg : List Stmt} {sg : Scope} {dV kV doc pm cdv ct oc : Value} {an od : Option Addr} {osl : Array (Option Value)} {Ng : List Str}
    {prm : Arguments} {body : Expr} {sc : Scope} {t : XK → TE} {p lpos pos : Pos} (hg : Gl X x) (hm : X.mg x = some (.ref g)) (hk : PySem.W.keepIn X.K (.ref g) = true)
    (lk : X.K.lookup g = some ⟨oc, od, .func (PySem.W.fnOf x x pg bg sg dV kV doc pm an cdv ct), osl⟩) (hcg : PySem.W.codeIn X.K cdv x = true) (hb : L2.Binds X.K (PySem.W.fnOf x x pg bg sg dV kV doc pm an cdv ct) [a] [])
    (Sg : FnScope Ng [a] sg) (hNg : Ng[0]? = some a) (hva : Vis sg a) (hG : GetsN X Ng x sg g cdv bg a (X.env.qual ++ "<lambda>") TT)
    (TB : TabB X.base X.mg c P) (hcode : X.env.code = .ref c) (hmT : (P, X.env.qual ++ "<lambda>") ∈ T) (hu : ∀ p ∈ T, p.1 = P → p.2 = X.env.qual ++ "<lambda>") (hr : Room (k + 2) X.A) (L : LamS X.env.scope sc) (hdef : defaultsOf prm X.env = ([], []))
    (hbind : ∀ (q : Str) (cl : List (Str × Addr)) (pm cv ctv : Value), bindArgs (PySem.W.kla_fn "<lambda>" q prm body sc cl pm cv ctv) ⟨[], []⟩ = pure [])
    (run : ∀ (A : Around) (outer : List Env) (s : Shared) (H : Hp) (E : XK) (f c' : Addr), Room k (A.deeper (lamEnv X sc s.heap.objs.size f c')) → PE (lamN X A outer s H E sc f c') body (t E))
    (h0 : (x == ("__debug__" : Str)) = false := by decide) (h1 : (a == ("__debug__" : Str)) = false := by decide) (h2 : (a == ("__classdict__" : Str)) = false := by decide) :
    PE X (.Call (.Name x p) [.Lambda prm body sc lpos] [] pos) (tLam T TT t) := by
  refine ⟨fun pins s σ H Q I ⟨hT, h⟩ => ?_⟩
  refine wpAny_Call_Name_kw (ld_glob I hg hm (PySem.W.callWith_K (h₀ := X.base) I.ok.mod.kin hk ?_ (by rfl) (by rfl)) h0)
  show wpAny _ _ (spliced ((false, eval (.Lambda prm body sc lpos) X.env) :: backTo pos (starEach [] X.env))) _ _ s
  refine Calls.spliced_cons (lam_make2 I TB hcode hmT hu hT hdef (L.has I.ok) fun f c' pm1 ctv H1 s1 I1 eN T1 hf n1 n2 hco => Calls.spliced_nil ⟨I1.kIn, ?_⟩)
  have rc : codeAny (model X.prog X.w) X.A (.call (.ref g) ⟨[.ref f], []⟩) (CR C8.CX0 X.stack X.prog X.w H1 s1 Q C8.E0) s1 := by
    refine run_ofS (N := Ng) (ps := [a]) (us := [.ref f]) (vs := [.ref f]) lk hcg Sg hr I1.env0 (hb s1 [.ref f] I1.kIn rfl) (.cons rfl .nil) rfl fun hr1 => ?_
    have act := fun (W : WX) (pn : List (Addr × Obj)) (xe : Value → Shared → Prop) (E : XK) (p1 p2 : Pos) (tk : L2N.Takes ((gotCx X Ng x sg g cdv s1 H1).tr pn xe) W) =>
      actN (p1 := p1) (p2 := p2) I1 L hf n1 n2 (hbind _ _ _ _ _) tk hr1 (fun A outer s H hr2 => run A outer s H E f c' hr2) hNg hva h1 h2
    obtain ⟨t1, ht1, hq1⟩ := hG f c' s1 H1 Q (fun E => t E σ) act hco (h H1 eN T1)
    exact ⟨t1, ht1.nox, hq1⟩
  refine wpAny_call (codeAny_mono rc fun r s2 hq => ?_)
  match r, hq with
  | .error e, hq => exact (show False from hq).elim
  | .ok (.ret u), hq => exact I1.after hq
  | .ok .next, hq => exact False.elim hq
  | .ok .brk, hq => exact False.elim hq
  | .ok .cont, hq => exact False.elim hq
end
/-! ### a def that is called with the exception that is handled -/
/-- as FnH, the promise knows the pinned exception -/
def FnP (P : Program) (w : World) (K : PySem.W.Frag) (mg : Str → Option Value) (base : Heap) (k : Nat) (f : Addr) (fd : FuncData) (a : Str) (sp : Addr × Obj → Hp → VK → Prop) : Prop :=
  ∀ (A : Around) (outer : List Env) (s : Shared) (H : Hp) (args : Args) (Q : VK) (p : Addr × Obj), RoomH k A → Hot1 A p → PinOk outer H s p → Env0 P w K mg base A outer s H → BindsTo s fd args [(a, .ref p.1)] → sp p H Q →
    codeAny (model P w) A (.call (.ref f) args) (CR C8.CX0 outer P w H s Q C8.E0) s
theorem fnP_of {P : Program} {w : World} {K : PySem.W.Frag} {mg : Str → Option Value} {base : Heap} {x qual a : Str} {st : Stmt} {f : Addr} {fd : FuncData} {N : List Str} {k : Nat} {sp : Addr × Obj → Hp → VK → Prop} (F : Fun K x qual st f fd) (S : FnScope N [a] (defScope st))
    (go : ∀ (cdv : Value) (A : Around) (outer : List Env) (s : Shared) (H : Hp) (Q : VK) (p : Addr × Obj), Hot1 A p → RoomH k (A.deeper (envOfC qual (defScope st) s.heap.objs.size f cdv)) → sp p H Q →
      ∃ t, PSs (cxH C8.CX0 P w K mg base N qual (defScope st) f cdv A outer s H C8.E0 p) (defBody st) t ∧ t { nx := fun _ H1 => Q .non H1, rt := Q } (L2.start N [.ref p.1]) H) : FnP P w K mg base (k + 1) f fd a sp := by
  obtain ⟨oc, od, kV, doc, pm, an, cdv, ct, osl, rfl, lk, hcd⟩ := F.ex
  intro A outer s H args Q p hr hot pin e0 hb hsp
  have KX : K.In s.heap := e0.mod.kin.keeps fun b o e => (e0.bs b o e).1
  have lim : s.heap.NoLimit := e0.mod.nolimit.keeps fun b o e => (e0.bs b o e).1
  have kd : ∀ y ∈ [a].zip [Value.ref p.1], (defScope st).names.lookup y.1 = some .local ∨ ((defScope st).names.lookup y.1 = some .cell ∧ ((cellsFrom (s.heap.objs.size + 1) (defScope st).names []).lookup y.1).isSome = true) := fun y hy =>
    (S.par y.1 (List.of_mem_zip hy).1).imp id fun q => ⟨q, PySem.W.cellsFrom_some _ _ _ (.inl q)⟩
  refine codeAny_call_function hr.depth (KX _ _ lk) rfl S.co S.gen rfl (PySem.W.codeRec_of KX hcd) (hb _ _ _ _ (wpAny_newFunctionEnv_cells S.kind kd fun env he s1 y => ?_))
  subst he
  obtain ⟨t, ht, hq⟩ := go cdv A outer s H Q p hot (hr.deeper _) hsp
  have J : Inv (cxH C8.CX0 P w K mg base N qual (defScope st) f cdv A outer s H C8.E0 p) [] (L2.start N [.ref p.1]) H s1 := inv_startH S pin e0 rfl (.cons rfl .nil) y
  refine ⟨lim.keeps y.toInCall.keep, codeAny_func (wpAny_mono (ht.run [] s1 _ H _ J hq) (fun fl s2 hs => ?_) fun e s2 hs => hs)⟩
  match fl, hs with
  | .ret u, ⟨v, _, H2, J2, rv, q⟩ => exact ⟨v, H2, J2.os, J2.bare, J2.base, J2.hok, rv, q⟩
  | .next, ⟨_, H2, J2, q⟩ => exact ⟨.non, H2, J2.os, J2.bare, J2.base, J2.hok, rfl, q⟩
  | .brk, ⟨_, _, _, q⟩ => exact False.elim q
  | .cont, ⟨_, _, _, q⟩ => exact False.elim q
/-- x(e) in the suite, e the exception that the suite holds -/
def tCallP (i : Nat) (a : Addr) (oe : Obj) (sp : Addr × Obj → Hp → VK → Prop) : TE := fun σ H Q => σ[i]? = some (some (.ref a)) ∧ sp (a, oe) H Q
theorem pe_callP {X : Cx} {x n z : Str} {i k : Nat} {f a : Addr} {oe : Obj} {pn : List (Addr × Obj)} {fd : FuncData} {sp : Addr × Obj → Hp → VK → Prop} {q q1 pos : Pos} (F : FnP X.prog X.w X.K X.mg X.base k f fd z sp) (hr : RoomH k X.A)
    (hz : PXN.CtxN oe) (hf : ∃ vs, oe.data = .fields vs) (hg : Gl X x) (hm : X.mg x = some (.ref f)) (hk : PySem.W.keepIn X.K (.ref f) = true) (hb : Binds X.K fd [z] [])
    (hN : X.N[i]? = some n) (hv : Vis X.env.scope n) (h1 : (n == ("__debug__" : Str)) = false := by decide) (h2 : (n == ("__classdict__" : Str)) = false := by decide) (h0 : (x == ("__debug__" : Str)) = false := by decide) :
    PE (X.suite a ((a, oe) :: pn)) (.Call (.Name x q) [.Name n q1] [] pos) (tCallP i a oe sp) := by
  have pn1 : PE (X.suite a ((a, oe) :: pn)) (.Name n q1) _ := pe_var (X := X.suite a ((a, oe) :: pn)) (i := i) hN hv h1 h2
  refine ⟨fun pins s σ H Q I ⟨hs, hq⟩ => ?_⟩
  refine wpAny_Call_Name_kw (ld_glob (X := X.suite a ((a, oe) :: pn)) I hg hm ?_ h0)
  refine PySem.W.callWith_K (h₀ := X.base) I.ok.mod.kin hk (thn ((pa_cons pn1 pa_nil).run pos pins s σ H (fun vs H1 => vs = [.ref a] ∧ H1 = H) I ⟨.ref a, hs, rfl, rfl⟩) fun us s1 ⟨vs, H1, I1, r, ev, eH⟩ => ⟨I1.kIn, ?_⟩) (by rfl) (by rfl)
  subst ev
  rw [eH] at I1
  obtain ⟨u, rfl, ru⟩ := r.one
  obtain rfl : u = Value.ref a := ru
  obtain ⟨vs, hvs⟩ := hf
  have P1 := I1.pin (a, oe) (List.mem_append_left _ List.mem_cons_self)
  have pin : PinOk X.stack H s1 (a, oe) := ⟨P1.1, P1.2.1, fun hm => (List.mem_cons.mp (I1.stkSub a hm)).elim P1.2.2.1 P1.2.2.2.1, P1.2.2.2.2⟩
  have bd := hb s1 [.ref a] I1.kIn rfl
  refine wpAny_call (codeAny_mono (F (X.A.mark (some (.ref a))) X.stack s1 H ⟨[.ref a], []⟩ Q (a, oe) ⟨hr.dp, hr.un⟩ ⟨rfl, vs, hvs, hz vs hvs⟩ pin I1.env0 bd hq) fun r s2 hq => ?_)
  match r, hq with
  | .error e, hq => exact (show False from hq).elim
  | .ok (.ret u), hq => exact I1.after hq
  | .ok .next, hq => exact False.elim hq
  | .ok .brk, hq => exact False.elim hq
  | .ok .cont, hq => exact False.elim hq
end HT

/-! == and len of instances with own __eq__ and __len__, any answer; tables and data. -/
namespace HT
open PySem PySem.Spec PyProof.Rows L2 LamX PS
section
variable {X : Cx} {n : Nat} {f C : Addr} {fd : FuncData} {ps : List Str} {sp : Sp}
/-- x == y, x an instance of the class at C, y of the type tb, which is none below C -/
def rEqOwn (K : PySem.W.Frag) (C : Addr) (sp : Sp) : R2 := fun x y H Q => ∃ (a dx : Addr) (fs : List (Str × V)) (tb : Value), x = .ref a ∧ H a = some (.ins C dx fs) ∧ TyX K H y tb ∧ PySem.W.notFirst K C tb = true ∧
  sp [x, y] H (fun v H1 => (∃ b, v = .bl b) ∧ Q v H1) L2.E0
theorem op_eqOwn (F : FnOk X.prog X.w X.K X.mg X.base L2.CX0 n f fd ps sp) (M : Meth X.K C "__eq__" f) (hb : Binds X.K fd ps []) (hr : Room n X.A) : OpR X (compareOp .Eq) (rEqOwn X.K C sp) := by
  intro pins s σ H x y v u Q I rx ry h
  obtain ⟨a, dx, fs, tb, rfl, ha, ty, nf, q⟩ := h
  obtain rfl : v = Value.ref a := rx
  obtain ⟨_, J, _⟩ := ins_get I.hok ha
  obtain ⟨_, J, _⟩ := J.look
  obtain ⟨_, hF⟩ := I.fr
  obtain ⟨_, kx, hP, _⟩ := kit_of I ry ty
  show wpAny (model X.prog X.w) X.A (richCompare .Eq (.ref a) u) _ _ s
  refine PySem.W.cmp_K (op := .Eq) hr.units0 hF I.ok.mod.kin J (kx.ty _ _ I.kIn hP) nf M.at_ M.fn ?_
  refine wpAny_mono (run_fn (us := [.ref a, u]) (vs := [.ref a, y]) F hr hb .nil pass0 I (.cons rfl (.cons ry .nil)) q) (fun v s1 z => ?_) fun _ _ z => z
  obtain ⟨z, H1, I1, rz, ⟨b, rfl⟩, q1⟩ := z
  obtain rfl : v = Value.bool b := rz
  exact ⟨.bl b, H1, I1, rfl, q1⟩
/-- len(x), x an instance of the class at C -/
def rLenOwn (C : Addr) (sp : Sp) : List V → Hp → VK → Prop := fun xs H Q => ∃ (a dx : Addr) (fs : List (Str × V)), xs = [.ref a] ∧ H a = some (.ins C dx fs) ∧
  sp xs H (fun v H1 => ∃ i : Int, v = .int i ∧ 0 ≤ i ∧ i < 2 ^ 63 ∧ Q v H1) L2.E0
theorem call_lenOwn (F : FnOk X.prog X.w X.K X.mg X.base L2.CX0 n f fd ps sp) (M : Meth X.K C "__len__" f) (hb : Binds X.K fd ps []) (hr : Room (n + 1) X.A) : CallR X (.builtin "len") (rLenOwn C sp) := by
  intro pins s σ H xs us Q I r h
  obtain ⟨a, dx, fs, rfl, ha, q⟩ := h
  obtain ⟨u, rfl, ru⟩ := r.one
  obtain rfl : u = Value.ref a := ru
  obtain ⟨_, J, _⟩ := ins_get I.hok ha
  obtain ⟨_, J, _⟩ := J.look
  obtain ⟨_, hF⟩ := I.fr
  have hl := F.len _ _ _ _ q
  have b := hb s [.ref a] I.kIn (by rw [List.append_nil]; exact hl)
  rw [List.append_nil] at b
  refine PySem.W.len_K hF I.ok.mod.kin J M.at_ M.fn (wpAny_call (codeAny_mono (F.run X.A.in1 X.stack s H ⟨[.ref a], []⟩ [.ref a] [.ref a] _ L2.E0 hr.in1 I.env0.in1 b (.cons rfl .nil) q) fun r s1 hq => ?_))
  match r, hq with
  | .error e, hq => exact (show False from hq).elim
  | .ok (.ret u), hq =>
    obtain ⟨z, H1, I1, rz, i, rfl, i0, i1, q1⟩ := I.after hq
    obtain ⟨t, rfl⟩ := (show ∃ t, u = Value.int i t from rz)
    exact ⟨⟨i0, i1⟩, .int i, H1, I1.tok _, ⟨_, rfl⟩, q1⟩
  | .ok .next, hq => exact False.elim hq
  | .ok .brk, hq => exact False.elim hq
  | .ok .cont, hq => exact False.elim hq
end
/-! ### the heap without tables -/
def NT (H : Hp) : Hp := fun b => match H b with
  | some (.tbl _) => none
  | o => o
theorem nt_at {H : Hp} {b : Addr} {o : HO} (h : H b = some o) (n : ∀ ps, o ≠ .tbl ps) : NT H b = some o := by
  unfold NT
  rw [h]
  cases o <;> first | rfl | exact absurd rfl (n _)
theorem nt_some {H : Hp} {b : Addr} {o : HO} (h : NT H b = some o) : H b = some o ∧ ∀ ps, o ≠ .tbl ps := by
  unfold NT at h
  cases e : H b with
  | none => rw [e] at h; cases h
  | some u =>
    rw [e] at h
    cases u <;> first | cases h; done | (cases h; exact ⟨rfl, fun ps z => by cases z⟩)
theorem nt_same (H : Hp) : Same (NT H) H := fun b o h => (nt_some h).1
theorem nt_ext {H H' : Hp} (e : ExtN H H') : Same (NT H) (NT H') := fun b o h => nt_at (e b o (nt_some h).1 (nt_some h).2) (nt_some h).2
theorem nt_mono {H H' : Hp} (e : Same H H') : Same (NT H) (NT H') := nt_ext (ExtN.of e)
theorem ext_nt {H H' : Hp} (e : Same (NT H) (NT H')) : ExtN H H' := fun b o h n => (nt_some (e b o (nt_at h n))).1
theorem nt_off (k : Addr) (H : Hp) : NT (Off k H) = Off k (NT H) := by
  funext b
  unfold NT PS.Off
  by_cases e : b = k
  · rw [if_pos e, if_pos e]
  · rw [if_neg e, if_neg e]
theorem off_off (j k : Addr) (H : Hp) : Off j (Off k H) = Off k (Off j H) := by
  funext b
  unfold PS.Off
  by_cases e : b = j
  · by_cases e2 : b = k
    · rw [if_pos e, if_pos e2]
    · rw [if_pos e, if_neg e2, if_pos e]
  · by_cases e2 : b = k
    · rw [if_neg e, if_pos e2, if_pos e2]
    · rw [if_neg e, if_neg e2, if_neg e2, if_neg e]
mutual
theorem dp_nt {K : PySem.W.Frag} {H : Hp} : ∀ (d : PyData) (v : V), Dp K H v d → Dp K (NT H) v d
  | .none, _, h => by cases h; exact .non
  | .bool b, _, h => by cases h; exact .bl b
  | .int i, _, h => by cases h; exact .int i
  | .str x, _, h => by cases h; exact .str x
  | .list ds, _, h => by
    cases h with
    | lst s al =>
      refine .lst ?_ (dpAll_nt ds _ al)
      rcases s with (s | ⟨o, s⟩) | s
      · exact .inl (.inl (nt_at s fun ps z => by cases z))
      · exact .inl (.inr ⟨o, nt_at s fun ps z => by cases z⟩)
      · exact .inr s
  | .tuple ds, _, h => by
    cases h with
    | tup s al =>
      refine .tup ?_ (dpAll_nt ds _ al)
      rcases s with (s | ⟨o, s⟩) | s
      · exact .inl (.inl (nt_at s fun ps z => by cases z))
      · exact .inl (.inr ⟨o, nt_at s fun ps z => by cases z⟩)
      · exact .inr s
  | .dict _, _, h => by cases h
theorem dpAll_nt {K : PySem.W.Frag} {H : Hp} : ∀ (ds : List PyData) (vs : List V), DpAll K H vs ds → DpAll K (NT H) vs ds
  | [], _, h => by cases h; exact .nil
  | d :: ds, _, h => by
    cases h with
    | cons h1 h2 => exact .cons (dp_nt d _ h1) (dpAll_nt ds _ h2)
end
theorem dp_ext {K : PySem.W.Frag} {H H' : Hp} {d : PyData} {v : V} (e : ExtN H H') (h : Dp K H v d) : Dp K H' v d := Dpm ((nt_ext e).trans (nt_same H')) (dp_nt d v h)
theorem ext_off {H H' : Hp} (k : Addr) (e : ExtN H H') : ExtN (Off k H) (Off k H') := ext_nt (by rw [nt_off, nt_off]; exact off_mono (nt_ext e))
theorem ext_in {H H' : Hp} {k : Addr} (e : ExtN (Off k H) (Off k H')) {b : Addr} {o : HO} (n : b ≠ k) (h : H b = some o) (t : ∀ ps, o ≠ .tbl ps) : H' b = some o := by
  have := e b o (off_at n h) t
  exact off_same k H' b o this
/-! ### tables -/
theorem tabs_off {T : List (Addr × Str)} {H H' : Hp} {k : Addr} {o : HO} (hk : H k = some o) (n1 : ∀ ps, o ≠ .tbl ps) (n2 : ∀ φ, o ≠ .ext φ) (e : Same (Off k H) (Off k H')) (t : Tabs T H) : Tabs T H' := fun p hp => by
  obtain ⟨ps, h1, h2, h3⟩ := t p hp
  refine ⟨ps, off_back e (fun z => ?_) h1, h2, fun pos cv hc => ?_⟩
  · rw [z, hk] at h1
    exact n1 ps (Option.some.inj h1)
  · obtain ⟨c, e1, e2⟩ := h3 pos cv hc
    refine ⟨c, e1, off_back e (fun z => ?_) e2⟩
    rw [z, hk] at e2
    exact n2 _ (Option.some.inj e2)
end HT

/-! A def whose code object is known (it makes lambdas); the end with tables. -/
namespace HT
open PySem PySem.Spec PyProof.Rows L2 HotX L2H LamX
def CodeAt (K : PySem.W.Frag) (f c : Addr) : Prop := ∃ (oc : Value) (od : Option Addr) (fd : FuncData) (sl : Array (Option Value)), K.lookup f = some ⟨oc, od, .func fd, sl⟩ ∧ fd.code = .ref c
theorem funL {P : Program} {w : World} {K : PySem.W.Frag} {mg : Str → Option Value} {base : Heap} {x qual : Str} {st : Stmt} {f c : Addr} {fd : FuncData} {N ps : List Str} {k : Nat} {sp : Sp}
    (F : Fun K x qual st f fd) (C : CodeAt K f c) (S : FnScope N ps (defScope st)) (len : ∀ vs H Q E, sp vs H Q E → vs.length = ps.length)
    (go : ∀ (A : Around) (outer : List Env) (s : Shared) (H : Hp) (vs : List V) (Q : VK) (E : XK), Room k (A.deeper (envOfC qual (defScope st) s.heap.objs.size f (.ref c))) → sp vs H Q E →
      ∃ t, PSs (cxOf L2.CX0 P w K mg base N qual (defScope st) f (.ref c) A outer s H E).nox (defBody st) t ∧ t { nx := fun _ H1 => Q .non H1, rt := Q } (L2.start N vs) H) :
    FnOk P w K mg base L2.CX0 (k + 1) f fd ps sp := by
  obtain ⟨oc, od, kV, doc, pm, an, cdv, ct, osl, rfl, lk, hcd⟩ := F.ex
  obtain ⟨_, _, fd1, _, lk1, e⟩ := C
  have z := lk.symm.trans lk1
  cases z
  obtain rfl : cdv = .ref c := e
  refine fn_of lk hcd S len fun A outer s H vs Q E hr hsp => ?_
  obtain ⟨t, h, q⟩ := go A outer s H vs Q E hr hsp
  exact ⟨t, h.nox, q⟩
/-- the end of a law row, the tables of its defs told -/
theorem walk_tabs {l : PySem.W.OpenLaw} {n k : Nat} {q : Program} {loose : List Str} {XP : (Str → Option Value) → Heap → Prop} {YP : World → Heap → Prop} {d : DefRec} {K : Params → PySem.W.Frag} {CX : World → CXT} {x : Str}
    (hn : l.most = some n) (hn2 : n ≤ sizeLine) (hdf : d.params.defaults = []) (hr : Room k callerA) (hY : ∀ (w : World) (h : Heap), YP w h → (K w.params).In h)
    (F : ∀ (w : World) (mg : Str → Option Value) (fa : Addr) (h : Heap), YP w h → (K w.params).In h → h.Ns mainGlobals mg → mg d.name = some (.ref fa) →
      (∀ (x : Str) (dr : DefRec) (c P : Addr), (recsOf q).find? (fun e => e.name == x) = some dr → PySem.W.tabIn (K w.params) x = some (c, P) → PySem.W.CodeHd h c P ∧ h.get? P = some { cls := .none, data := .fields #[] }) → LawAtS l w (K w.params) (CX w) k n x mg fa h)
    (hCX : ∀ (w : World) (H : Hp) (s : Shared) (e : Value) (s' : Shared), CX w [] H s (fun _ _ _ => False) e s' → False) :
    PySem.W.WalkO q loose XP YP l.row.toRowW d [] (fun f vs => PySem.call f vs) := by
  refine Att.attach_callB hn hdf fun w s₀ s₁ mg mb fa o pm cd doc a vs ns G Y ho hd hcd hmg hobj hints hlen hbits hg => ?_
  have KX := hY w _ Y
  obtain ⟨fd, cs, sp, hT, nT, C, hb, hsp, hF⟩ := F w mg fa _ Y KX G.T.g hmg fun x dr c P h1 h2 => PySem.W.tab_of G.T KX h1 h2
  exact law_callTs KX G.T.g G.T.b G.T.builtins G.T.nolimit hg hT nT C G.T.bmain hobj hints (Nat.le_trans hlen hn2) hr hF hb (fun H hH hS => hsp H a ns hlen hbits hH hS) fun H e s' => hCX w H s₁ e s'
end HT

/-! The end with tables: what is asked of the written part. -/
namespace HT
open PySem PySem.Spec PyProof.Rows L2 LamX
theorem tab_mk {K : PySem.W.Frag} {x : Str} {f c P : Addr} {oc e : Value} {od dd : Option Addr} {fd : FuncData} {sl sl2 : Array (Option Value)} {vs : Array Value}
    (a : PySem.W.nsIn K mainGlobals x = some (some (.ref f))) (l : K.lookup f = some ⟨oc, od, .func fd, sl⟩) (h : fd.code = .ref c) (k : K.lookup c = some ⟨e, dd, .fields vs, sl2⟩) (p : vs[11]? = some (.ref P)) : PySem.W.tabIn K x = some (c, P) := by
  unfold PySem.W.tabIn
  simp only [a, l, h, k, p]
/-- what is known of the tables of the program's defs at h -/
def TabsAt (q : Program) (K : PySem.W.Frag) (h : Heap) : Prop := ∀ (x : Str) (c P : Addr), ((recsOf q).any fun e => e.name == x) = true → PySem.W.tabIn K x = some (c, P) → PySem.W.CodeHd h c P ∧ h.get? P = some { cls := .none, data := .fields #[] }
theorem walk_tabsQ {l : PySem.W.OpenLaw} {n k : Nat} {q : Program} {loose : List Str} {XP : (Str → Option Value) → Heap → Prop} {YP : World → Heap → Prop} {d : DefRec} {K : Params → PySem.W.Frag} {CX : World → CXT} {x : Str}
    (hn : l.most = some n) (hn2 : n ≤ sizeLine) (hdf : d.params.defaults = []) (hr : Room k callerA) (hY : ∀ (w : World) (h : Heap), YP w h → (K w.params).In h)
    (F : ∀ (w : World) (mg : Str → Option Value) (fa : Addr) (h : Heap), (K w.params).In h → h.Ns mainGlobals mg → mg d.name = some (.ref fa) → TabsAt q (K w.params) h → LawAtS l w (K w.params) (CX w) k n x mg fa h)
    (hCX : ∀ (w : World) (H : Hp) (s : Shared) (e : Value) (s' : Shared), CX w [] H s (fun _ _ _ => False) e s' → False) :
    PySem.W.WalkO q loose XP YP l.row.toRowW d [] (fun f vs => PySem.call f vs) := by
  refine walk_tabs hn hn2 hdf hr hY (fun w mg fa h Y KX G hmg t => F w mg fa h KX G hmg fun x c P ha ht => ?_) hCX
  have hs : ((recsOf q).find? fun e => e.name == x).isSome = true := by
    rw [List.find?_isSome]
    obtain ⟨e, he, h1⟩ := List.any_eq_true.mp ha
    exact ⟨e, he, h1⟩
  obtain ⟨dr, hd⟩ := Option.isSome_iff_exists.mp hs
  exact t x dr c P hd ht
end HT

namespace PS
open PySem PySem.Spec PyProof.Rows L2
def topS (i : Nat) : Stmt := PySem.Challenge.pw_pushshelf_k11_whole_benches_deed_by_deed.main.body.getD i (.Pass ⟨0, 0, 0, 0⟩)
abbrev s_is_whole : Stmt := topS 12
theorem sc_is_whole : FnScope ["thing"] ["thing"] (defScope s_is_whole) := ⟨rfl, rfl, rfl, by decide +kernel, rfl, by decide +kernel, by decide +kernel⟩
abbrev s_is_within : Stmt := topS 13
theorem sc_is_within : FnScope ["thing", "low", "high"] ["thing", "low", "high"] (defScope s_is_within) := ⟨rfl, rfl, rfl, by decide +kernel, rfl, by decide +kernel, by decide +kernel⟩
abbrev s_is_tuple_of : Stmt := topS 14
theorem sc_is_tuple_of : FnScope ["thing", "many"] ["thing", "many"] (defScope s_is_tuple_of) := ⟨rfl, rfl, rfl, by decide +kernel, rfl, by decide +kernel, by decide +kernel⟩
abbrev s_are_blocks : Stmt := topS 15
theorem sc_are_blocks : FnScope ["thing", "length"] ["thing"] (defScope s_are_blocks) := ⟨rfl, rfl, rfl, by decide +kernel, rfl, by decide +kernel, by decide +kernel⟩
abbrev s_is_shelf : Stmt := topS 16
theorem sc_is_shelf : FnScope ["thing", "room", "blocks", "total"] ["thing"] (defScope s_is_shelf) := ⟨rfl, rfl, rfl, by decide +kernel, rfl, by decide +kernel, by decide +kernel⟩
abbrev s_need_shelf : Stmt := topS 17
theorem sc_need_shelf : FnScope ["thing"] ["thing"] (defScope s_need_shelf) := ⟨rfl, rfl, rfl, by decide +kernel, rfl, by decide +kernel, by decide +kernel⟩
abbrev s_play_of : Stmt := topS 18
theorem sc_play_of : FnScope ["shelf", "room", "blocks"] ["shelf"] (defScope s_play_of) := ⟨rfl, rfl, rfl, by decide +kernel, rfl, by decide +kernel, by decide +kernel⟩
abbrev s_gap_length : Stmt := topS 19
theorem sc_gap_length : FnScope ["shelf", "gap"] ["shelf", "gap"] (defScope s_gap_length) := ⟨rfl, rfl, rfl, by decide +kernel, rfl, by decide +kernel, by decide +kernel⟩
abbrev s_places_of : Stmt := topS 20
theorem sc_places_of : FnScope ["shelf", "stand", "at", "left"] ["shelf", "stand"] (defScope s_places_of) := ⟨rfl, rfl, rfl, by decide +kernel, rfl, by decide +kernel, by decide +kernel⟩
abbrev s_packed : Stmt := topS 21
theorem sc_packed : FnScope ["shelf", "start", "at"] ["shelf", "start"] (defScope s_packed) := ⟨rfl, rfl, rfl, by decide +kernel, rfl, by decide +kernel, by decide +kernel⟩
abbrev s_leftmost : Stmt := topS 22
theorem sc_leftmost : FnScope ["shelf"] ["shelf"] (defScope s_leftmost) := ⟨rfl, rfl, rfl, by decide +kernel, rfl, by decide +kernel, by decide +kernel⟩
abbrev s_rightmost : Stmt := topS 23
theorem sc_rightmost : FnScope ["shelf"] ["shelf"] (defScope s_rightmost) := ⟨rfl, rfl, rfl, by decide +kernel, rfl, by decide +kernel, by decide +kernel⟩
abbrev s_is_stand : Stmt := topS 24
theorem sc_is_stand : FnScope ["shelf", "thing", "room", "blocks", "edge", "left", "length"] ["shelf", "thing"] (defScope s_is_stand) := ⟨rfl, rfl, rfl, by decide +kernel, rfl, by decide +kernel, by decide +kernel⟩
abbrev s_need_stand : Stmt := topS 25
theorem sc_need_stand : FnScope ["shelf", "thing"] ["shelf", "thing"] (defScope s_need_stand) := ⟨rfl, rfl, rfl, by decide +kernel, rfl, by decide +kernel, by decide +kernel⟩
abbrev s_is_gap : Stmt := topS 26
theorem sc_is_gap : FnScope ["shelf", "side", "thing", "many"] ["shelf", "side", "thing"] (defScope s_is_gap) := ⟨rfl, rfl, rfl, by decide +kernel, rfl, by decide +kernel, by decide +kernel⟩
abbrev s_is_push : Stmt := topS 27
theorem sc_is_push : FnScope ["shelf", "thing", "side", "gap", "place", "length"] ["shelf", "thing"] (defScope s_is_push) := ⟨rfl, rfl, rfl, by decide +kernel, rfl, by decide +kernel, by decide +kernel⟩
abbrev s_pushed_right : Stmt := topS 28
theorem sc_pushed_right : FnScope ["blocks", "stand", "gap", "place", "lefts", "edge", "at"] ["blocks", "stand", "gap", "place"] (defScope s_pushed_right) := ⟨rfl, rfl, rfl, by decide +kernel, rfl, by decide +kernel, by decide +kernel⟩
abbrev s_pushed_left : Stmt := topS 29
theorem sc_pushed_left : FnScope ["blocks", "stand", "gap", "place", "lefts", "edge", "at"] ["blocks", "stand", "gap", "place"] (defScope s_pushed_left) := ⟨rfl, rfl, rfl, by decide +kernel, rfl, by decide +kernel, by decide +kernel⟩
abbrev s_pushed : Stmt := topS 30
theorem sc_pushed : FnScope ["shelf", "stand", "push", "side", "gap", "place"] ["shelf", "stand", "push"] (defScope s_pushed) := ⟨rfl, rfl, rfl, by decide +kernel, rfl, by decide +kernel, by decide +kernel⟩
abbrev s_Band_init : Stmt := inClass (topS 32) 0
theorem sc_Band_init : FnScope ["self", "first", "beyond", "place", "up", "down"] ["self", "first", "beyond", "place", "up", "down"] (defScope s_Band_init) := ⟨rfl, rfl, rfl, by decide +kernel, rfl, by decide +kernel, by decide +kernel⟩
abbrev s_band_from : Stmt := topS 33
theorem sc_band_from : FnScope ["now", "wished", "first", "place", "beyond"] ["now", "wished", "first"] (defScope s_band_from) := ⟨rfl, rfl, rfl, by decide +kernel, rfl, by decide +kernel, by decide +kernel⟩
abbrev s_bands_of : Stmt := topS 34
theorem sc_bands_of : FnScope ["shelf", "stand", "wish", "now", "wished", "bands", "first", "band"] ["shelf", "stand", "wish"] (defScope s_bands_of) := ⟨rfl, rfl, rfl, by decide +kernel, rfl, by decide +kernel, by decide +kernel⟩
abbrev s_raised : Stmt := topS 35
theorem sc_raised : FnScope ["shelf", "gap", "place"] ["shelf", "gap", "place"] (defScope s_raised) := ⟨rfl, rfl, rfl, by decide +kernel, rfl, by decide +kernel, by decide +kernel⟩
abbrev s_lowered : Stmt := topS 36
theorem sc_lowered : FnScope ["shelf", "gap", "place"] ["shelf", "gap", "place"] (defScope s_lowered) := ⟨rfl, rfl, rfl, by decide +kernel, rfl, by decide +kernel, by decide +kernel⟩
abbrev s_row_alone : Stmt := topS 37
theorem sc_row_alone : FnScope ["shelf", "band", "row"] ["shelf", "band"] (defScope s_row_alone) := ⟨rfl, rfl, rfl, by decide +kernel, rfl, by decide +kernel, by decide +kernel⟩
abbrev s_row_served_by_last : Stmt := topS 38
theorem sc_row_served_by_last : FnScope ["shelf", "bands", "row", "band"] ["shelf", "bands"] (defScope s_row_served_by_last) := ⟨rfl, rfl, rfl, by decide +kernel, rfl, by decide +kernel, by decide +kernel⟩
abbrev s_row_served_by_first : Stmt := topS 39
theorem sc_row_served_by_first : FnScope ["shelf", "bands", "server", "row", "band"] ["shelf", "bands"] (defScope s_row_served_by_first) := ⟨rfl, rfl, rfl, by decide +kernel, rfl, by decide +kernel, by decide +kernel⟩
abbrev s_row_together : Stmt := topS 40
theorem sc_row_together : FnScope ["shelf", "bands"] ["shelf", "bands"] (defScope s_row_together) := ⟨rfl, rfl, rfl, by decide +kernel, rfl, by decide +kernel, by decide +kernel⟩
abbrev s_shortest_row : Stmt := topS 41
theorem sc_shortest_row : FnScope ["shelf", "stand", "wish", "bands", "rows", "many", "ways", "ahead"] ["shelf", "stand", "wish"] (defScope s_shortest_row) := ⟨rfl, rfl, rfl, by decide +kernel, rfl, by decide +kernel, by decide +kernel⟩
abbrev s_need_both : Stmt := topS 42
theorem sc_need_both : FnScope ["shelf", "stand", "wish"] ["shelf", "stand", "wish"] (defScope s_need_both) := ⟨rfl, rfl, rfl, by decide +kernel, rfl, by decide +kernel, by decide +kernel⟩
abbrev s_pushes_to : Stmt := topS 43
theorem sc_pushes_to : FnScope ["shelf", "stand", "wish"] ["shelf", "stand", "wish"] (defScope s_pushes_to) := ⟨rfl, rfl, rfl, by decide +kernel, rfl, by decide +kernel, by decide +kernel⟩
abbrev s_copied : Stmt := topS 45
theorem sc_copied : FnScope ["numbers"] ["numbers"] (defScope s_copied) := ⟨rfl, rfl, rfl, by decide +kernel, rfl, by decide +kernel, by decide +kernel⟩
abbrev s_Bench_init : Stmt := inClass (topS 46) 0
theorem sc_Bench_init : FnScope ["self", "shelf", "stand", "room", "blocks"] ["self", "shelf", "stand"] (defScope s_Bench_init) := ⟨rfl, rfl, rfl, by decide +kernel, rfl, by decide +kernel, by decide +kernel⟩
abbrev s_Bench_push : Stmt := inClass (topS 46) 1
theorem sc_Bench_push : FnScope ["self", "thing"] ["self", "thing"] (defScope s_Bench_push) := ⟨rfl, rfl, rfl, by decide +kernel, rfl, by decide +kernel, by decide +kernel⟩
abbrev s_Bench_set_wish : Stmt := inClass (topS 46) 2
theorem sc_Bench_set_wish : FnScope ["self", "wish"] ["self", "wish"] (defScope s_Bench_set_wish) := ⟨rfl, rfl, rfl, by decide +kernel, rfl, by decide +kernel, by decide +kernel⟩
abbrev s_Bench_stand : Stmt := inClass (topS 46) 3
theorem sc_Bench_stand : FnScope ["self"] ["self"] (defScope s_Bench_stand) := ⟨rfl, rfl, rfl, by decide +kernel, rfl, by decide +kernel, by decide +kernel⟩
abbrev s_Bench_doing : Stmt := inClass (topS 46) 4
theorem sc_Bench_doing : FnScope ["self"] ["self"] (defScope s_Bench_doing) := ⟨rfl, rfl, rfl, by decide +kernel, rfl, by decide +kernel, by decide +kernel⟩
abbrev s_Bench_pushes : Stmt := inClass (topS 46) 5
theorem sc_Bench_pushes : FnScope ["self"] ["self"] (defScope s_Bench_pushes) := ⟨rfl, rfl, rfl, by decide +kernel, rfl, by decide +kernel, by decide +kernel⟩
abbrev s_Bench_fewest : Stmt := inClass (topS 46) 6
theorem sc_Bench_fewest : FnScope ["self"] ["self"] (defScope s_Bench_fewest) := ⟨rfl, rfl, rfl, by decide +kernel, rfl, by decide +kernel, by decide +kernel⟩
abbrev s_Bench_len : Stmt := inClass (topS 46) 7
theorem sc_Bench_len : FnScope ["self"] ["self"] (defScope s_Bench_len) := ⟨rfl, rfl, rfl, by decide +kernel, rfl, by decide +kernel, by decide +kernel⟩
abbrev s_Bench_eq : Stmt := inClass (topS 46) 8
theorem sc_Bench_eq : FnScope ["self", "other"] ["self", "other"] (defScope s_Bench_eq) := ⟨rfl, rfl, rfl, by decide +kernel, rfl, by decide +kernel, by decide +kernel⟩
abbrev s_law_deck : Stmt := topS 48
theorem sc_law_deck : FnScope ["cell", "turn"] ["cell", "turn"] (defScope s_law_deck) := ⟨rfl, rfl, rfl, by decide +kernel, rfl, by decide +kernel, by decide +kernel⟩
abbrev s_law_pick : Stmt := topS 49
theorem sc_law_pick : FnScope ["deck", "size", "found", "number"] ["deck", "size"] (defScope s_law_pick) := ⟨rfl, rfl, rfl, by decide +kernel, rfl, by decide +kernel, by decide +kernel⟩
abbrev s_law_whole : Stmt := topS 50
theorem sc_law_whole : FnScope ["thing"] ["thing"] (defScope s_law_whole) := ⟨rfl, rfl, rfl, by decide +kernel, rfl, by decide +kernel, by decide +kernel⟩
abbrev s_law_one : Stmt := topS 51
theorem sc_law_one : FnScope ["deck", "some"] ["deck", "some"] (defScope s_law_one) := ⟨rfl, rfl, rfl, by decide +kernel, rfl, by decide +kernel, by decide +kernel⟩
abbrev s_law_kin : Stmt := topS 52
theorem sc_law_kin : FnScope ["e", "kinds_met", "names", "name", "good"] ["e"] (defScope s_law_kin) := ⟨rfl, rfl, rfl, by decide +kernel, rfl, by decide +kernel, by decide +kernel⟩
abbrev s_law_try : Stmt := topS 53
theorem sc_law_try : FnScope ["door", "found", "e"] ["door"] (defScope s_law_try) := ⟨rfl, rfl, rfl, by decide +kernel, rfl, by decide +kernel, by decide +kernel⟩
abbrev s_law_sort : Stmt := topS 54
theorem sc_law_sort : FnScope ["thing"] ["thing"] (defScope s_law_sort) := ⟨rfl, rfl, rfl, by decide +kernel, rfl, by decide +kernel, by decide +kernel⟩
abbrev s_law_same : Stmt := topS 55
theorem sc_law_same : FnScope ["told", "due", "k", "part"] ["told", "due"] (defScope s_law_same) := ⟨rfl, rfl, rfl, by decide +kernel, rfl, by decide +kernel, by decide +kernel⟩
abbrev s_law_odd : Stmt := topS 56
theorem sc_law_odd : FnScope ["deck", "some"] ["deck"] (defScope s_law_odd) := ⟨rfl, rfl, rfl, by decide +kernel, rfl, by decide +kernel, by decide +kernel⟩
abbrev s_law_shelf : Stmt := topS 57
theorem sc_law_shelf : FnScope ["deck", "at_most", "play", "blocks", "k"] ["deck", "at_most", "play"] (defScope s_law_shelf) := ⟨rfl, rfl, rfl, by decide +kernel, rfl, by decide +kernel, by decide +kernel⟩
abbrev s_law_play : Stmt := topS 58
theorem sc_law_play : FnScope ["shelf"] ["shelf"] (defScope s_law_play) := ⟨rfl, rfl, rfl, by decide +kernel, rfl, by decide +kernel, by decide +kernel⟩
abbrev s_law_stand_of : Stmt := topS 59
theorem sc_law_stand_of : FnScope ["shelf", "places", "found", "ahead", "place", "long"] ["shelf", "places"] (defScope s_law_stand_of) := ⟨rfl, rfl, rfl, by decide +kernel, rfl, by decide +kernel, by decide +kernel⟩
abbrev s_law_stand : Stmt := topS 60
theorem sc_law_stand : FnScope ["deck", "shelf", "places", "long"] ["deck", "shelf"] (defScope s_law_stand) := ⟨rfl, rfl, rfl, by decide +kernel, rfl, by decide +kernel, by decide +kernel⟩
abbrev s_law_push : Stmt := topS 61
theorem sc_law_push : FnScope ["deck", "shelf", "side", "gap"] ["deck", "shelf"] (defScope s_law_push) := ⟨rfl, rfl, rfl, by decide +kernel, rfl, by decide +kernel, by decide +kernel⟩
abbrev s_law_pushed : Stmt := topS 62
theorem sc_law_pushed : FnScope ["shelf", "stand", "push", "side", "gap", "bound", "found", "at"] ["shelf", "stand", "push"] (defScope s_law_pushed) := ⟨rfl, rfl, rfl, by decide +kernel, rfl, by decide +kernel, by decide +kernel⟩
abbrev s_law_is_push : Stmt := topS 63
theorem sc_law_is_push : FnScope ["shelf", "thing", "low"] ["shelf", "thing"] (defScope s_law_is_push) := ⟨rfl, rfl, rfl, by decide +kernel, rfl, by decide +kernel, by decide +kernel⟩
abbrev s_law_ends : Stmt := topS 64
theorem sc_law_ends : FnScope ["shelf", "many"] ["shelf"] (defScope s_law_ends) := ⟨rfl, rfl, rfl, by decide +kernel, rfl, by decide +kernel, by decide +kernel⟩
abbrev s_law_is_stand : Stmt := topS 65
theorem sc_law_is_stand : FnScope ["shelf", "thing", "end", "at", "left"] ["shelf", "thing"] (defScope s_law_is_stand) := ⟨rfl, rfl, rfl, by decide +kernel, rfl, by decide +kernel, by decide +kernel⟩
abbrev s_law_bands : Stmt := topS 66
theorem sc_law_bands : FnScope ["shelf", "stand", "wish", "found", "last", "at", "left", "place"] ["shelf", "stand", "wish"] (defScope s_law_bands) := ⟨rfl, rfl, rfl, by decide +kernel, rfl, by decide +kernel, by decide +kernel⟩
abbrev s_law_fewest : Stmt := topS 67
theorem sc_law_fewest : FnScope ["bands", "best", "many", "server", "own"] ["bands"] (defScope s_law_fewest) := ⟨rfl, rfl, rfl, by decide +kernel, rfl, by decide +kernel, by decide +kernel⟩
abbrev s_law_do : Stmt := topS 68
theorem sc_law_do : FnScope ["bench", "deed", "told"] ["bench", "deed"] (defScope s_law_do) := ⟨rfl, rfl, rfl, by decide +kernel, rfl, by decide +kernel, by decide +kernel⟩
abbrev s_law_deed : Stmt := topS 69
theorem sc_law_deed : FnScope ["deck", "shelf", "state", "wish", "push"] ["deck", "shelf", "state"] (defScope s_law_deed) := ⟨rfl, rfl, rfl, by decide +kernel, rfl, by decide +kernel, by decide +kernel⟩
abbrev s_law_due : Stmt := topS 70
theorem sc_law_due : FnScope ["shelf", "deed"] ["shelf", "deed"] (defScope s_law_due) := ⟨rfl, rfl, rfl, by decide +kernel, rfl, by decide +kernel, by decide +kernel⟩
abbrev s_law_after : Stmt := topS 71
theorem sc_law_after : FnScope ["shelf", "state", "deed", "stand", "doing", "many", "wish", "one"] ["shelf", "state", "deed"] (defScope s_law_after) := ⟨rfl, rfl, rfl, by decide +kernel, rfl, by decide +kernel, by decide +kernel⟩
abbrev s_law_right : Stmt := topS 72
theorem sc_law_right : FnScope ["bench", "shelf", "state", "stand", "doing", "many", "wish", "due", "told"] ["bench", "shelf", "state"] (defScope s_law_right) := ⟨rfl, rfl, rfl, by decide +kernel, rfl, by decide +kernel, by decide +kernel⟩
abbrev s_law : Stmt := topS 73
theorem sc_law : FnScope ["script", "cell", "deck", "shelf", "state", "bench", "other", "turn", "deed", "due", "new"] ["script"] (defScope s_law) := ⟨rfl, rfl, rfl, by decide +kernel, rfl, by decide +kernel, by decide +kernel⟩
/-- what the top has left -/
structure Tx (K : PySem.W.Frag) (mg : Str → Option Value) where
  {f_is_whole : Addr}
  {fd_is_whole : FuncData}
  F_is_whole : Fun K "is_whole" "is_whole" s_is_whole f_is_whole fd_is_whole
  g_is_whole : mg "is_whole" = some (.ref f_is_whole)
  {f_is_within : Addr}
  {fd_is_within : FuncData}
  F_is_within : Fun K "is_within" "is_within" s_is_within f_is_within fd_is_within
  g_is_within : mg "is_within" = some (.ref f_is_within)
  {f_is_tuple_of : Addr}
  {fd_is_tuple_of : FuncData}
  F_is_tuple_of : Fun K "is_tuple_of" "is_tuple_of" s_is_tuple_of f_is_tuple_of fd_is_tuple_of
  g_is_tuple_of : mg "is_tuple_of" = some (.ref f_is_tuple_of)
  {f_are_blocks : Addr}
  {fd_are_blocks : FuncData}
  F_are_blocks : Fun K "are_blocks" "are_blocks" s_are_blocks f_are_blocks fd_are_blocks
  g_are_blocks : mg "are_blocks" = some (.ref f_are_blocks)
  {f_is_shelf : Addr}
  {fd_is_shelf : FuncData}
  F_is_shelf : Fun K "is_shelf" "is_shelf" s_is_shelf f_is_shelf fd_is_shelf
  g_is_shelf : mg "is_shelf" = some (.ref f_is_shelf)
  {f_need_shelf : Addr}
  {fd_need_shelf : FuncData}
  F_need_shelf : Fun K "need_shelf" "need_shelf" s_need_shelf f_need_shelf fd_need_shelf
  g_need_shelf : mg "need_shelf" = some (.ref f_need_shelf)
  {f_play_of : Addr}
  {fd_play_of : FuncData}
  F_play_of : Fun K "play_of" "play_of" s_play_of f_play_of fd_play_of
  g_play_of : mg "play_of" = some (.ref f_play_of)
  {f_gap_length : Addr}
  {fd_gap_length : FuncData}
  F_gap_length : Fun K "gap_length" "gap_length" s_gap_length f_gap_length fd_gap_length
  g_gap_length : mg "gap_length" = some (.ref f_gap_length)
  {f_places_of : Addr}
  {fd_places_of : FuncData}
  F_places_of : Fun K "places_of" "places_of" s_places_of f_places_of fd_places_of
  g_places_of : mg "places_of" = some (.ref f_places_of)
  {f_packed : Addr}
  {fd_packed : FuncData}
  F_packed : Fun K "packed" "packed" s_packed f_packed fd_packed
  g_packed : mg "packed" = some (.ref f_packed)
  {f_leftmost : Addr}
  {fd_leftmost : FuncData}
  F_leftmost : Fun K "leftmost" "leftmost" s_leftmost f_leftmost fd_leftmost
  g_leftmost : mg "leftmost" = some (.ref f_leftmost)
  {f_rightmost : Addr}
  {fd_rightmost : FuncData}
  F_rightmost : Fun K "rightmost" "rightmost" s_rightmost f_rightmost fd_rightmost
  g_rightmost : mg "rightmost" = some (.ref f_rightmost)
  {f_is_stand : Addr}
  {fd_is_stand : FuncData}
  F_is_stand : Fun K "is_stand" "is_stand" s_is_stand f_is_stand fd_is_stand
  g_is_stand : mg "is_stand" = some (.ref f_is_stand)
  {f_need_stand : Addr}
  {fd_need_stand : FuncData}
  F_need_stand : Fun K "need_stand" "need_stand" s_need_stand f_need_stand fd_need_stand
  g_need_stand : mg "need_stand" = some (.ref f_need_stand)
  {f_is_gap : Addr}
  {fd_is_gap : FuncData}
  F_is_gap : Fun K "is_gap" "is_gap" s_is_gap f_is_gap fd_is_gap
  g_is_gap : mg "is_gap" = some (.ref f_is_gap)
  {f_is_push : Addr}
  {fd_is_push : FuncData}
  F_is_push : Fun K "is_push" "is_push" s_is_push f_is_push fd_is_push
  g_is_push : mg "is_push" = some (.ref f_is_push)
  {f_pushed_right : Addr}
  {fd_pushed_right : FuncData}
  F_pushed_right : Fun K "pushed_right" "pushed_right" s_pushed_right f_pushed_right fd_pushed_right
  g_pushed_right : mg "pushed_right" = some (.ref f_pushed_right)
  {f_pushed_left : Addr}
  {fd_pushed_left : FuncData}
  F_pushed_left : Fun K "pushed_left" "pushed_left" s_pushed_left f_pushed_left fd_pushed_left
  g_pushed_left : mg "pushed_left" = some (.ref f_pushed_left)
  {f_pushed : Addr}
  {fd_pushed : FuncData}
  F_pushed : Fun K "pushed" "pushed" s_pushed f_pushed fd_pushed
  g_pushed : mg "pushed" = some (.ref f_pushed)
  {f_Band_init : Addr}
  {fd_Band_init : FuncData}
  F_Band_init : Fun K "__init__" "Band.__init__" s_Band_init f_Band_init fd_Band_init
  {f_band_from : Addr}
  {fd_band_from : FuncData}
  F_band_from : Fun K "band_from" "band_from" s_band_from f_band_from fd_band_from
  g_band_from : mg "band_from" = some (.ref f_band_from)
  {f_bands_of : Addr}
  {fd_bands_of : FuncData}
  F_bands_of : Fun K "bands_of" "bands_of" s_bands_of f_bands_of fd_bands_of
  g_bands_of : mg "bands_of" = some (.ref f_bands_of)
  {f_raised : Addr}
  {fd_raised : FuncData}
  F_raised : Fun K "raised" "raised" s_raised f_raised fd_raised
  g_raised : mg "raised" = some (.ref f_raised)
  {f_lowered : Addr}
  {fd_lowered : FuncData}
  F_lowered : Fun K "lowered" "lowered" s_lowered f_lowered fd_lowered
  g_lowered : mg "lowered" = some (.ref f_lowered)
  {f_row_alone : Addr}
  {fd_row_alone : FuncData}
  F_row_alone : Fun K "row_alone" "row_alone" s_row_alone f_row_alone fd_row_alone
  g_row_alone : mg "row_alone" = some (.ref f_row_alone)
  {f_row_served_by_last : Addr}
  {fd_row_served_by_last : FuncData}
  F_row_served_by_last : Fun K "row_served_by_last" "row_served_by_last" s_row_served_by_last f_row_served_by_last fd_row_served_by_last
  g_row_served_by_last : mg "row_served_by_last" = some (.ref f_row_served_by_last)
  {f_row_served_by_first : Addr}
  {fd_row_served_by_first : FuncData}
  F_row_served_by_first : Fun K "row_served_by_first" "row_served_by_first" s_row_served_by_first f_row_served_by_first fd_row_served_by_first
  g_row_served_by_first : mg "row_served_by_first" = some (.ref f_row_served_by_first)
  {f_row_together : Addr}
  {fd_row_together : FuncData}
  F_row_together : Fun K "row_together" "row_together" s_row_together f_row_together fd_row_together
  g_row_together : mg "row_together" = some (.ref f_row_together)
  {f_shortest_row : Addr}
  {fd_shortest_row : FuncData}
  F_shortest_row : Fun K "shortest_row" "shortest_row" s_shortest_row f_shortest_row fd_shortest_row
  g_shortest_row : mg "shortest_row" = some (.ref f_shortest_row)
  {f_need_both : Addr}
  {fd_need_both : FuncData}
  F_need_both : Fun K "need_both" "need_both" s_need_both f_need_both fd_need_both
  g_need_both : mg "need_both" = some (.ref f_need_both)
  {f_pushes_to : Addr}
  {fd_pushes_to : FuncData}
  F_pushes_to : Fun K "pushes_to" "pushes_to" s_pushes_to f_pushes_to fd_pushes_to
  g_pushes_to : mg "pushes_to" = some (.ref f_pushes_to)
  {f_copied : Addr}
  {fd_copied : FuncData}
  F_copied : Fun K "copied" "copied" s_copied f_copied fd_copied
  g_copied : mg "copied" = some (.ref f_copied)
  {f_Bench_init : Addr}
  {fd_Bench_init : FuncData}
  F_Bench_init : Fun K "__init__" "Bench.__init__" s_Bench_init f_Bench_init fd_Bench_init
  {f_Bench_push : Addr}
  {fd_Bench_push : FuncData}
  F_Bench_push : Fun K "push" "Bench.push" s_Bench_push f_Bench_push fd_Bench_push
  {f_Bench_set_wish : Addr}
  {fd_Bench_set_wish : FuncData}
  F_Bench_set_wish : Fun K "set_wish" "Bench.set_wish" s_Bench_set_wish f_Bench_set_wish fd_Bench_set_wish
  {f_Bench_stand : Addr}
  {fd_Bench_stand : FuncData}
  F_Bench_stand : Fun K "stand" "Bench.stand" s_Bench_stand f_Bench_stand fd_Bench_stand
  {f_Bench_doing : Addr}
  {fd_Bench_doing : FuncData}
  F_Bench_doing : Fun K "doing" "Bench.doing" s_Bench_doing f_Bench_doing fd_Bench_doing
  {f_Bench_pushes : Addr}
  {fd_Bench_pushes : FuncData}
  F_Bench_pushes : Fun K "pushes" "Bench.pushes" s_Bench_pushes f_Bench_pushes fd_Bench_pushes
  {f_Bench_fewest : Addr}
  {fd_Bench_fewest : FuncData}
  F_Bench_fewest : Fun K "fewest" "Bench.fewest" s_Bench_fewest f_Bench_fewest fd_Bench_fewest
  {f_Bench_len : Addr}
  {fd_Bench_len : FuncData}
  F_Bench_len : Fun K "__len__" "Bench.__len__" s_Bench_len f_Bench_len fd_Bench_len
  {f_Bench_eq : Addr}
  {fd_Bench_eq : FuncData}
  F_Bench_eq : Fun K "__eq__" "Bench.__eq__" s_Bench_eq f_Bench_eq fd_Bench_eq
  {f_law_deck : Addr}
  {fd_law_deck : FuncData}
  F_law_deck : Fun K "_law_deck" "_law_deck" s_law_deck f_law_deck fd_law_deck
  g_law_deck : mg "_law_deck" = some (.ref f_law_deck)
  {f_law_pick : Addr}
  {fd_law_pick : FuncData}
  F_law_pick : Fun K "_law_pick" "_law_pick" s_law_pick f_law_pick fd_law_pick
  g_law_pick : mg "_law_pick" = some (.ref f_law_pick)
  {f_law_whole : Addr}
  {fd_law_whole : FuncData}
  F_law_whole : Fun K "_law_whole" "_law_whole" s_law_whole f_law_whole fd_law_whole
  g_law_whole : mg "_law_whole" = some (.ref f_law_whole)
  {f_law_one : Addr}
  {fd_law_one : FuncData}
  F_law_one : Fun K "_law_one" "_law_one" s_law_one f_law_one fd_law_one
  g_law_one : mg "_law_one" = some (.ref f_law_one)
  {f_law_kin : Addr}
  {fd_law_kin : FuncData}
  F_law_kin : Fun K "_law_kin" "_law_kin" s_law_kin f_law_kin fd_law_kin
  g_law_kin : mg "_law_kin" = some (.ref f_law_kin)
  {f_law_try : Addr}
  {fd_law_try : FuncData}
  F_law_try : Fun K "_law_try" "_law_try" s_law_try f_law_try fd_law_try
  g_law_try : mg "_law_try" = some (.ref f_law_try)
  {f_law_sort : Addr}
  {fd_law_sort : FuncData}
  F_law_sort : Fun K "_law_sort" "_law_sort" s_law_sort f_law_sort fd_law_sort
  g_law_sort : mg "_law_sort" = some (.ref f_law_sort)
  {f_law_same : Addr}
  {fd_law_same : FuncData}
  F_law_same : Fun K "_law_same" "_law_same" s_law_same f_law_same fd_law_same
  g_law_same : mg "_law_same" = some (.ref f_law_same)
  {f_law_odd : Addr}
  {fd_law_odd : FuncData}
  F_law_odd : Fun K "_law_odd" "_law_odd" s_law_odd f_law_odd fd_law_odd
  g_law_odd : mg "_law_odd" = some (.ref f_law_odd)
  {f_law_shelf : Addr}
  {fd_law_shelf : FuncData}
  F_law_shelf : Fun K "_law_shelf" "_law_shelf" s_law_shelf f_law_shelf fd_law_shelf
  g_law_shelf : mg "_law_shelf" = some (.ref f_law_shelf)
  {f_law_play : Addr}
  {fd_law_play : FuncData}
  F_law_play : Fun K "_law_play" "_law_play" s_law_play f_law_play fd_law_play
  g_law_play : mg "_law_play" = some (.ref f_law_play)
  {f_law_stand_of : Addr}
  {fd_law_stand_of : FuncData}
  F_law_stand_of : Fun K "_law_stand_of" "_law_stand_of" s_law_stand_of f_law_stand_of fd_law_stand_of
  g_law_stand_of : mg "_law_stand_of" = some (.ref f_law_stand_of)
  {f_law_stand : Addr}
  {fd_law_stand : FuncData}
  F_law_stand : Fun K "_law_stand" "_law_stand" s_law_stand f_law_stand fd_law_stand
  g_law_stand : mg "_law_stand" = some (.ref f_law_stand)
  {f_law_push : Addr}
  {fd_law_push : FuncData}
  F_law_push : Fun K "_law_push" "_law_push" s_law_push f_law_push fd_law_push
  g_law_push : mg "_law_push" = some (.ref f_law_push)
  {f_law_pushed : Addr}
  {fd_law_pushed : FuncData}
  F_law_pushed : Fun K "_law_pushed" "_law_pushed" s_law_pushed f_law_pushed fd_law_pushed
  g_law_pushed : mg "_law_pushed" = some (.ref f_law_pushed)
  {f_law_is_push : Addr}
  {fd_law_is_push : FuncData}
  F_law_is_push : Fun K "_law_is_push" "_law_is_push" s_law_is_push f_law_is_push fd_law_is_push
  g_law_is_push : mg "_law_is_push" = some (.ref f_law_is_push)
  {f_law_ends : Addr}
  {fd_law_ends : FuncData}
  F_law_ends : Fun K "_law_ends" "_law_ends" s_law_ends f_law_ends fd_law_ends
  g_law_ends : mg "_law_ends" = some (.ref f_law_ends)
  {f_law_is_stand : Addr}
  {fd_law_is_stand : FuncData}
  F_law_is_stand : Fun K "_law_is_stand" "_law_is_stand" s_law_is_stand f_law_is_stand fd_law_is_stand
  g_law_is_stand : mg "_law_is_stand" = some (.ref f_law_is_stand)
  {f_law_bands : Addr}
  {fd_law_bands : FuncData}
  F_law_bands : Fun K "_law_bands" "_law_bands" s_law_bands f_law_bands fd_law_bands
  g_law_bands : mg "_law_bands" = some (.ref f_law_bands)
  {f_law_fewest : Addr}
  {fd_law_fewest : FuncData}
  F_law_fewest : Fun K "_law_fewest" "_law_fewest" s_law_fewest f_law_fewest fd_law_fewest
  g_law_fewest : mg "_law_fewest" = some (.ref f_law_fewest)
  {f_law_do : Addr}
  {fd_law_do : FuncData}
  F_law_do : Fun K "_law_do" "_law_do" s_law_do f_law_do fd_law_do
  g_law_do : mg "_law_do" = some (.ref f_law_do)
  {f_law_deed : Addr}
  {fd_law_deed : FuncData}
  F_law_deed : Fun K "_law_deed" "_law_deed" s_law_deed f_law_deed fd_law_deed
  g_law_deed : mg "_law_deed" = some (.ref f_law_deed)
  {f_law_due : Addr}
  {fd_law_due : FuncData}
  F_law_due : Fun K "_law_due" "_law_due" s_law_due f_law_due fd_law_due
  g_law_due : mg "_law_due" = some (.ref f_law_due)
  {f_law_after : Addr}
  {fd_law_after : FuncData}
  F_law_after : Fun K "_law_after" "_law_after" s_law_after f_law_after fd_law_after
  g_law_after : mg "_law_after" = some (.ref f_law_after)
  {f_law_right : Addr}
  {fd_law_right : FuncData}
  F_law_right : Fun K "_law_right" "_law_right" s_law_right f_law_right fd_law_right
  g_law_right : mg "_law_right" = some (.ref f_law_right)
  {C_Band : Addr}
  cl_Band : Cls K C_Band
  g_Band : mg "Band" = some (.ref C_Band)
  mk_Band : Mk K C_Band f_Band_init
  na_Band_first : NoAttr K C_Band "first"
  na_Band_beyond : NoAttr K C_Band "beyond"
  na_Band_place : NoAttr K C_Band "place"
  na_Band_up : NoAttr K C_Band "up"
  na_Band_down : NoAttr K C_Band "down"
  {C_Bench : Addr}
  cl_Bench : Cls K C_Bench
  g_Bench : mg "Bench" = some (.ref C_Bench)
  mk_Bench : Mk K C_Bench f_Bench_init
  me_Bench_push : Meth K C_Bench "push" f_Bench_push
  me_Bench_set_wish : Meth K C_Bench "set_wish" f_Bench_set_wish
  me_Bench_stand : Meth K C_Bench "stand" f_Bench_stand
  me_Bench_doing : Meth K C_Bench "doing" f_Bench_doing
  me_Bench_pushes : Meth K C_Bench "pushes" f_Bench_pushes
  me_Bench_fewest : Meth K C_Bench "fewest" f_Bench_fewest
  me_Bench_len : Meth K C_Bench "__len__" f_Bench_len
  me_Bench_eq : Meth K C_Bench "__eq__" f_Bench_eq
  na_Bench_shelf : NoAttr K C_Bench "shelf"
  na_Bench_now : NoAttr K C_Bench "now"
  na_Bench_least : NoAttr K C_Bench "least"
  na_Bench_greatest : NoAttr K C_Bench "greatest"
  na_Bench_many : NoAttr K C_Bench "many"
  na_Bench_wish : NoAttr K C_Bench "wish"
  n_ValueError : mg "ValueError" = none
  n_all : mg "all" = none
  n_bool : mg "bool" = none
  n_enumerate : mg "enumerate" = none
  n_int : mg "int" = none
  n_isinstance : mg "isinstance" = none
  n_len : mg "len" = none
  n_list : mg "list" = none
  n_max : mg "max" = none
  n_min : mg "min" = none
  n_range : mg "range" = none
  n_reversed : mg "reversed" = none
  n_sorted : mg "sorted" = none
  n_str : mg "str" = none
  n_sum : mg "sum" = none
  n_tuple : mg "tuple" = none
  n_zip : mg "zip" = none
  {cu_MOST_BLOCKS : Value}
  c_MOST_BLOCKS : RelV (.int 8) cu_MOST_BLOCKS ∧ mg "MOST_BLOCKS" = some cu_MOST_BLOCKS
  {cu_MOST_LENGTH : Value}
  c_MOST_LENGTH : RelV (.int 50) cu_MOST_LENGTH ∧ mg "MOST_LENGTH" = some cu_MOST_LENGTH
  {cu_MOST_PLAY : Value}
  c_MOST_PLAY : RelV (.int 400) cu_MOST_PLAY ∧ mg "MOST_PLAY" = some cu_MOST_PLAY
variable {P : Program} {w : World} {K : PySem.W.Frag} {mg : Str → Option Value} {base : Heap}
theorem Tx.b_is_whole (T : Tx K mg) : Binds K T.fd_is_whole ["thing"] [] := T.F_is_whole.binds fun _ _ _ _ _ _ us hl => match us, hl with | [_], _ => rfl
theorem Tx.b_is_within (T : Tx K mg) : Binds K T.fd_is_within ["thing", "low", "high"] [] := T.F_is_within.binds fun _ _ _ _ _ _ us hl => match us, hl with | [_, _, _], _ => rfl
theorem Tx.b_is_tuple_of (T : Tx K mg) : Binds K T.fd_is_tuple_of ["thing", "many"] [] := T.F_is_tuple_of.binds fun _ _ _ _ _ _ us hl => match us, hl with | [_, _], _ => rfl
theorem Tx.b_are_blocks (T : Tx K mg) : Binds K T.fd_are_blocks ["thing"] [] := T.F_are_blocks.binds fun _ _ _ _ _ _ us hl => match us, hl with | [_], _ => rfl
theorem Tx.b_is_shelf (T : Tx K mg) : Binds K T.fd_is_shelf ["thing"] [] := T.F_is_shelf.binds fun _ _ _ _ _ _ us hl => match us, hl with | [_], _ => rfl
theorem Tx.b_need_shelf (T : Tx K mg) : Binds K T.fd_need_shelf ["thing"] [] := T.F_need_shelf.binds fun _ _ _ _ _ _ us hl => match us, hl with | [_], _ => rfl
theorem Tx.b_play_of (T : Tx K mg) : Binds K T.fd_play_of ["shelf"] [] := T.F_play_of.binds fun _ _ _ _ _ _ us hl => match us, hl with | [_], _ => rfl
theorem Tx.b_gap_length (T : Tx K mg) : Binds K T.fd_gap_length ["shelf", "gap"] [] := T.F_gap_length.binds fun _ _ _ _ _ _ us hl => match us, hl with | [_, _], _ => rfl
theorem Tx.b_places_of (T : Tx K mg) : Binds K T.fd_places_of ["shelf", "stand"] [] := T.F_places_of.binds fun _ _ _ _ _ _ us hl => match us, hl with | [_, _], _ => rfl
theorem Tx.b_packed (T : Tx K mg) : Binds K T.fd_packed ["shelf", "start"] [] := T.F_packed.binds fun _ _ _ _ _ _ us hl => match us, hl with | [_, _], _ => rfl
theorem Tx.b_leftmost (T : Tx K mg) : Binds K T.fd_leftmost ["shelf"] [] := T.F_leftmost.binds fun _ _ _ _ _ _ us hl => match us, hl with | [_], _ => rfl
theorem Tx.b_rightmost (T : Tx K mg) : Binds K T.fd_rightmost ["shelf"] [] := T.F_rightmost.binds fun _ _ _ _ _ _ us hl => match us, hl with | [_], _ => rfl
theorem Tx.b_is_stand (T : Tx K mg) : Binds K T.fd_is_stand ["shelf", "thing"] [] := T.F_is_stand.binds fun _ _ _ _ _ _ us hl => match us, hl with | [_, _], _ => rfl
theorem Tx.b_need_stand (T : Tx K mg) : Binds K T.fd_need_stand ["shelf", "thing"] [] := T.F_need_stand.binds fun _ _ _ _ _ _ us hl => match us, hl with | [_, _], _ => rfl
theorem Tx.b_is_gap (T : Tx K mg) : Binds K T.fd_is_gap ["shelf", "side", "thing"] [] := T.F_is_gap.binds fun _ _ _ _ _ _ us hl => match us, hl with | [_, _, _], _ => rfl
theorem Tx.b_is_push (T : Tx K mg) : Binds K T.fd_is_push ["shelf", "thing"] [] := T.F_is_push.binds fun _ _ _ _ _ _ us hl => match us, hl with | [_, _], _ => rfl
theorem Tx.b_pushed_right (T : Tx K mg) : Binds K T.fd_pushed_right ["blocks", "stand", "gap", "place"] [] := T.F_pushed_right.binds fun _ _ _ _ _ _ us hl => match us, hl with | [_, _, _, _], _ => rfl
theorem Tx.b_pushed_left (T : Tx K mg) : Binds K T.fd_pushed_left ["blocks", "stand", "gap", "place"] [] := T.F_pushed_left.binds fun _ _ _ _ _ _ us hl => match us, hl with | [_, _, _, _], _ => rfl
theorem Tx.b_pushed (T : Tx K mg) : Binds K T.fd_pushed ["shelf", "stand", "push"] [] := T.F_pushed.binds fun _ _ _ _ _ _ us hl => match us, hl with | [_, _, _], _ => rfl
theorem Tx.b_Band_init (T : Tx K mg) : Binds K T.fd_Band_init ["self", "first", "beyond", "place", "up", "down"] [] := T.F_Band_init.binds fun _ _ _ _ _ _ us hl => match us, hl with | [_, _, _, _, _, _], _ => rfl
theorem Tx.b_band_from (T : Tx K mg) : Binds K T.fd_band_from ["now", "wished", "first"] [] := T.F_band_from.binds fun _ _ _ _ _ _ us hl => match us, hl with | [_, _, _], _ => rfl
theorem Tx.b_bands_of (T : Tx K mg) : Binds K T.fd_bands_of ["shelf", "stand", "wish"] [] := T.F_bands_of.binds fun _ _ _ _ _ _ us hl => match us, hl with | [_, _, _], _ => rfl
theorem Tx.b_raised (T : Tx K mg) : Binds K T.fd_raised ["shelf", "gap", "place"] [] := T.F_raised.binds fun _ _ _ _ _ _ us hl => match us, hl with | [_, _, _], _ => rfl
theorem Tx.b_lowered (T : Tx K mg) : Binds K T.fd_lowered ["shelf", "gap", "place"] [] := T.F_lowered.binds fun _ _ _ _ _ _ us hl => match us, hl with | [_, _, _], _ => rfl
theorem Tx.b_row_alone (T : Tx K mg) : Binds K T.fd_row_alone ["shelf", "band"] [] := T.F_row_alone.binds fun _ _ _ _ _ _ us hl => match us, hl with | [_, _], _ => rfl
theorem Tx.b_row_served_by_last (T : Tx K mg) : Binds K T.fd_row_served_by_last ["shelf", "bands"] [] := T.F_row_served_by_last.binds fun _ _ _ _ _ _ us hl => match us, hl with | [_, _], _ => rfl
theorem Tx.b_row_served_by_first (T : Tx K mg) : Binds K T.fd_row_served_by_first ["shelf", "bands"] [] := T.F_row_served_by_first.binds fun _ _ _ _ _ _ us hl => match us, hl with | [_, _], _ => rfl
theorem Tx.b_row_together (T : Tx K mg) : Binds K T.fd_row_together ["shelf", "bands"] [] := T.F_row_together.binds fun _ _ _ _ _ _ us hl => match us, hl with | [_, _], _ => rfl
theorem Tx.b_shortest_row (T : Tx K mg) : Binds K T.fd_shortest_row ["shelf", "stand", "wish"] [] := T.F_shortest_row.binds fun _ _ _ _ _ _ us hl => match us, hl with | [_, _, _], _ => rfl
theorem Tx.b_need_both (T : Tx K mg) : Binds K T.fd_need_both ["shelf", "stand", "wish"] [] := T.F_need_both.binds fun _ _ _ _ _ _ us hl => match us, hl with | [_, _, _], _ => rfl
theorem Tx.b_pushes_to (T : Tx K mg) : Binds K T.fd_pushes_to ["shelf", "stand", "wish"] [] := T.F_pushes_to.binds fun _ _ _ _ _ _ us hl => match us, hl with | [_, _, _], _ => rfl
theorem Tx.b_copied (T : Tx K mg) : Binds K T.fd_copied ["numbers"] [] := T.F_copied.binds fun _ _ _ _ _ _ us hl => match us, hl with | [_], _ => rfl
theorem Tx.b_Bench_init (T : Tx K mg) : Binds K T.fd_Bench_init ["self", "shelf", "stand"] [] := T.F_Bench_init.binds fun _ _ _ _ _ _ us hl => match us, hl with | [_, _, _], _ => rfl
theorem Tx.b_Bench_push (T : Tx K mg) : Binds K T.fd_Bench_push ["self", "thing"] [] := T.F_Bench_push.binds fun _ _ _ _ _ _ us hl => match us, hl with | [_, _], _ => rfl
theorem Tx.b_Bench_set_wish (T : Tx K mg) : Binds K T.fd_Bench_set_wish ["self", "wish"] [] := T.F_Bench_set_wish.binds fun _ _ _ _ _ _ us hl => match us, hl with | [_, _], _ => rfl
theorem Tx.b_Bench_stand (T : Tx K mg) : Binds K T.fd_Bench_stand ["self"] [] := T.F_Bench_stand.binds fun _ _ _ _ _ _ us hl => match us, hl with | [_], _ => rfl
theorem Tx.b_Bench_doing (T : Tx K mg) : Binds K T.fd_Bench_doing ["self"] [] := T.F_Bench_doing.binds fun _ _ _ _ _ _ us hl => match us, hl with | [_], _ => rfl
theorem Tx.b_Bench_pushes (T : Tx K mg) : Binds K T.fd_Bench_pushes ["self"] [] := T.F_Bench_pushes.binds fun _ _ _ _ _ _ us hl => match us, hl with | [_], _ => rfl
theorem Tx.b_Bench_fewest (T : Tx K mg) : Binds K T.fd_Bench_fewest ["self"] [] := T.F_Bench_fewest.binds fun _ _ _ _ _ _ us hl => match us, hl with | [_], _ => rfl
theorem Tx.b_Bench_len (T : Tx K mg) : Binds K T.fd_Bench_len ["self"] [] := T.F_Bench_len.binds fun _ _ _ _ _ _ us hl => match us, hl with | [_], _ => rfl
theorem Tx.b_Bench_eq (T : Tx K mg) : Binds K T.fd_Bench_eq ["self", "other"] [] := T.F_Bench_eq.binds fun _ _ _ _ _ _ us hl => match us, hl with | [_, _], _ => rfl
theorem Tx.b_law_deck (T : Tx K mg) : Binds K T.fd_law_deck ["cell", "turn"] [] := T.F_law_deck.binds fun _ _ _ _ _ _ us hl => match us, hl with | [_, _], _ => rfl
theorem Tx.b_law_pick (T : Tx K mg) : Binds K T.fd_law_pick ["deck", "size"] [] := T.F_law_pick.binds fun _ _ _ _ _ _ us hl => match us, hl with | [_, _], _ => rfl
theorem Tx.b_law_whole (T : Tx K mg) : Binds K T.fd_law_whole ["thing"] [] := T.F_law_whole.binds fun _ _ _ _ _ _ us hl => match us, hl with | [_], _ => rfl
theorem Tx.b_law_one (T : Tx K mg) : Binds K T.fd_law_one ["deck", "some"] [] := T.F_law_one.binds fun _ _ _ _ _ _ us hl => match us, hl with | [_, _], _ => rfl
theorem Tx.b_law_kin (T : Tx K mg) : Binds K T.fd_law_kin ["e"] [] := T.F_law_kin.binds fun _ _ _ _ _ _ us hl => match us, hl with | [_], _ => rfl
theorem Tx.b_law_try (T : Tx K mg) : Binds K T.fd_law_try ["door"] [] := T.F_law_try.binds fun _ _ _ _ _ _ us hl => match us, hl with | [_], _ => rfl
theorem Tx.b_law_sort (T : Tx K mg) : Binds K T.fd_law_sort ["thing"] [] := T.F_law_sort.binds fun _ _ _ _ _ _ us hl => match us, hl with | [_], _ => rfl
theorem Tx.b_law_same (T : Tx K mg) : Binds K T.fd_law_same ["told", "due"] [] := T.F_law_same.binds fun _ _ _ _ _ _ us hl => match us, hl with | [_, _], _ => rfl
theorem Tx.b_law_odd (T : Tx K mg) : Binds K T.fd_law_odd ["deck"] [] := T.F_law_odd.binds fun _ _ _ _ _ _ us hl => match us, hl with | [_], _ => rfl
theorem Tx.b_law_shelf (T : Tx K mg) : Binds K T.fd_law_shelf ["deck", "at_most", "play"] [] := T.F_law_shelf.binds fun _ _ _ _ _ _ us hl => match us, hl with | [_, _, _], _ => rfl
theorem Tx.b_law_play (T : Tx K mg) : Binds K T.fd_law_play ["shelf"] [] := T.F_law_play.binds fun _ _ _ _ _ _ us hl => match us, hl with | [_], _ => rfl
theorem Tx.b_law_stand_of (T : Tx K mg) : Binds K T.fd_law_stand_of ["shelf", "places"] [] := T.F_law_stand_of.binds fun _ _ _ _ _ _ us hl => match us, hl with | [_, _], _ => rfl
theorem Tx.b_law_stand (T : Tx K mg) : Binds K T.fd_law_stand ["deck", "shelf"] [] := T.F_law_stand.binds fun _ _ _ _ _ _ us hl => match us, hl with | [_, _], _ => rfl
theorem Tx.b_law_push (T : Tx K mg) : Binds K T.fd_law_push ["deck", "shelf"] [] := T.F_law_push.binds fun _ _ _ _ _ _ us hl => match us, hl with | [_, _], _ => rfl
theorem Tx.b_law_pushed (T : Tx K mg) : Binds K T.fd_law_pushed ["shelf", "stand", "push"] [] := T.F_law_pushed.binds fun _ _ _ _ _ _ us hl => match us, hl with | [_, _, _], _ => rfl
theorem Tx.b_law_is_push (T : Tx K mg) : Binds K T.fd_law_is_push ["shelf", "thing"] [] := T.F_law_is_push.binds fun _ _ _ _ _ _ us hl => match us, hl with | [_, _], _ => rfl
theorem Tx.b_law_ends (T : Tx K mg) : Binds K T.fd_law_ends ["shelf"] [] := T.F_law_ends.binds fun _ _ _ _ _ _ us hl => match us, hl with | [_], _ => rfl
theorem Tx.b_law_is_stand (T : Tx K mg) : Binds K T.fd_law_is_stand ["shelf", "thing"] [] := T.F_law_is_stand.binds fun _ _ _ _ _ _ us hl => match us, hl with | [_, _], _ => rfl
theorem Tx.b_law_bands (T : Tx K mg) : Binds K T.fd_law_bands ["shelf", "stand", "wish"] [] := T.F_law_bands.binds fun _ _ _ _ _ _ us hl => match us, hl with | [_, _, _], _ => rfl
theorem Tx.b_law_fewest (T : Tx K mg) : Binds K T.fd_law_fewest ["bands"] [] := T.F_law_fewest.binds fun _ _ _ _ _ _ us hl => match us, hl with | [_], _ => rfl
theorem Tx.b_law_do (T : Tx K mg) : Binds K T.fd_law_do ["bench", "deed"] [] := T.F_law_do.binds fun _ _ _ _ _ _ us hl => match us, hl with | [_, _], _ => rfl
theorem Tx.b_law_deed (T : Tx K mg) : Binds K T.fd_law_deed ["deck", "shelf", "state"] [] := T.F_law_deed.binds fun _ _ _ _ _ _ us hl => match us, hl with | [_, _, _], _ => rfl
theorem Tx.b_law_due (T : Tx K mg) : Binds K T.fd_law_due ["shelf", "deed"] [] := T.F_law_due.binds fun _ _ _ _ _ _ us hl => match us, hl with | [_, _], _ => rfl
theorem Tx.b_law_after (T : Tx K mg) : Binds K T.fd_law_after ["shelf", "state", "deed"] [] := T.F_law_after.binds fun _ _ _ _ _ _ us hl => match us, hl with | [_, _, _], _ => rfl
theorem Tx.b_law_right (T : Tx K mg) : Binds K T.fd_law_right ["bench", "shelf", "state"] [] := T.F_law_right.binds fun _ _ _ _ _ _ us hl => match us, hl with | [_, _, _], _ => rfl

end PS

namespace PS
open PySem PySem.Spec PyProof.Rows L2
variable {P : Program} {w : World} {K : PySem.W.Frag} {mg : Str → Option Value} {base : Heap}
def sp_is_whole (K : PySem.W.Frag) : Sp := fun vs H Q _ => ∃ v d, vs = [v] ∧ Dp K H v d ∧ Q (.bl (isW d)) H
theorem ok_is_whole (T : Tx K mg) : FnOk P w K mg base CX0 1 T.f_is_whole T.fd_is_whole ["thing"] (sp_is_whole K) := by
  refine T.F_is_whole.ok sc_is_whole (fun vs H Q E h => ?_) (fun cdv A outer s H vs Q E hr h => ?_)
  · obtain ⟨v, d, rfl, _⟩ := h
    rfl
  · obtain ⟨v, d, rfl, hd, q⟩ := h
    refine ⟨_, (pss_one (ps_ret (pe_and (pe_callB call_isD (by rfl) T.n_isinstance (by decide +kernel) (pa_cons (pv 0) (pa_cons (pe_bltn (v := .ty "int") (by rfl) T.n_int (by decide +kernel) rfl) pa_nil))) (pe_one (pe_not (pe_callB call_isD (by rfl) T.n_isinstance (by decide +kernel) (pa_cons (pv 0) (pa_cons (pe_bltn (v := .ty "bool") (by rfl) T.n_bool (by decide +kernel) rfl) pa_nil)))))))), ?_⟩
    refine ⟨v, rfl, v, _, d, rfl, hd, kInt d, _, rfl, ?_⟩
    rw [isA_int]
    cases hd with
    | bl b => exact iteT ⟨_, rfl, _, _, _, rfl, .bl b, kBool _, _, rfl, by rw [isA_bool]; exact q⟩
    | int b => exact iteT ⟨_, rfl, _, _, _, rfl, .int b, kBool _, _, rfl, by rw [isA_bool]; exact q⟩
    | _ => exact iteF q
def sp_is_within (K : PySem.W.Frag) : Sp := fun vs H Q _ => ∃ v d lo hi, vs = [v, .int lo, .int hi] ∧ Dp K H v d ∧ Q (.bl (within d lo hi)) H
theorem ok_is_within (T : Tx K mg) : FnOk P w K mg base CX0 2 T.f_is_within T.fd_is_within ["thing", "low", "high"] (sp_is_within K) := by
  have G_is_whole := ok_is_whole (P := P) (w := w) (base := base) T
  refine T.F_is_within.ok sc_is_within (fun vs H Q E h => ?_) (fun cdv A outer s H vs Q E hr h => ?_)
  · obtain ⟨v, d, lo, hi, rfl, _⟩ := h
    rfl
  · obtain ⟨v, d, lo, hi, rfl, hd, q⟩ := h
    refine ⟨_, (pss_one (ps_ret (pe_and (pe_call (G_is_whole.mono (by first | decide | omega)) hr (by rfl) T.g_is_whole T.F_is_whole.kp T.b_is_whole .nil pass0 (pa_cons (pv 0) pa_nil)) (pe_one (pe_chain op_le op_le (pv 1) (pv 0) (pv 2)))))), ?_⟩
    refine ⟨v, rfl, v, d, rfl, hd, _, rfl, ?_⟩
    cases hd with
    | int i =>
      refine iteT ⟨_, rfl, _, rfl, _, _, rfl, rfl, _, rfl, ?_⟩
      unfold within at q
      simp only at q
      by_cases hl : lo ≤ i
      · rw [if_pos hl] at q
        rw [if_pos (decide_eq_true hl)]
        exact ⟨_, rfl, _, _, rfl, rfl, q⟩
      · rw [if_neg hl] at q
        rw [if_neg (by simp [hl])]
        exact q
    | _ => exact iteF q
def sp_is_tuple_of (K : PySem.W.Frag) : Sp := fun vs H Q _ => ∃ v d n, vs = [v, .int n] ∧ Dp K H v d ∧ Q (.bl (tupOf d n)) H
theorem ok_is_tuple_of (T : Tx K mg) : FnOk P w K mg base CX0 1 T.f_is_tuple_of T.fd_is_tuple_of ["thing", "many"] (sp_is_tuple_of K) := by
  refine T.F_is_tuple_of.ok sc_is_tuple_of (fun vs H Q E h => ?_) (fun cdv A outer s H vs Q E hr h => ?_)
  · obtain ⟨v, d, n, rfl, _⟩ := h
    rfl
  · obtain ⟨v, d, n, rfl, hd, q⟩ := h
    refine ⟨_, (pss_one (ps_ret (pe_and (pe_callB call_isD (by rfl) T.n_isinstance (by decide +kernel) (pa_cons (pv 0) (pa_cons (pe_bltn (v := .ty "tuple") (by rfl) T.n_tuple (by decide +kernel) rfl) pa_nil))) (pe_one (pe_cmpR op_eq (pe_callB call_len_seq (by rfl) T.n_len (by decide +kernel) (pa_cons (pv 0) pa_nil)) (pv 1) (nomark _)))))), ?_⟩
    refine ⟨v, rfl, v, _, d, rfl, hd, kTuple d, _, rfl, ?_⟩
    rw [isA_tuple]
    cases hd with
    | @tup a xs ds s al =>
      refine iteT ⟨_, rfl, a, xs, rfl, .inr s, _, rfl, rfl, ?_⟩
      rw [dpAll_len al]
      unfold tupOf at q
      simp only at q
      have e : decide (V.int (ds.length : Int) = V.int n) = decide ((ds.length : Int) = n) := by
        by_cases h : (ds.length : Int) = n
        · rw [h]; simp
        · rw [decide_eq_false h, decide_eq_false (fun z => h (V.int.inj z))]
      rw [e]
      exact q
    | _ => exact iteF q
def sp_are_blocks (K : PySem.W.Frag) : Sp := fun vs H Q _ => ∃ v d, vs = [v] ∧ Dp K H v d ∧ RB H Q (areBlocks d)
theorem ok_are_blocks (T : Tx K mg) : FnOk P w K mg base CX0 3 T.f_are_blocks T.fd_are_blocks ["thing"] (sp_are_blocks K) := by
  have G_is_within := ok_is_within (P := P) (w := w) (base := base) T
  refine T.F_are_blocks.ok sc_are_blocks (fun vs H Q E h => ?_) (fun cdv A outer s H vs Q E hr h => ?_)
  · obtain ⟨v, d, rfl, _⟩ := h
    rfl
  · obtain ⟨v, d, rfl, hd, q⟩ := h
    refine ⟨_, (pss_cons (ps_if (PW.pt (pw_or (pt_not (pt_val (pe_callB call_isD (by rfl) T.n_isinstance (by decide +kernel) (pa_cons (pv 0) (pa_cons (pe_bltn (v := .ty "tuple") (by rfl) T.n_tuple (by decide +kernel) rfl) pa_nil))))) (pw_or1 (pt_not (pt_chain op_le op_le pe_int (pe_callB call_len_seq (by rfl) T.n_len (by decide +kernel) (pa_cons (pv 0) pa_nil)) (pe_glob (by rfl) T.c_MOST_BLOCKS.2 T.c_MOST_BLOCKS.1)))))) (pss_one (ps_ret pe_bl)) pss_nil)
      (pss_one (ps_ret (pe_callB (cr_all rfl) (by rfl) T.n_all (by decide +kernel) (pa_cons (pe_lc (own := [("length", 1)]) (g := gName 1) (tt := tYes) rfl sc_are_blocks.nd (pi_tup (pv 0)) (blkOk_by (own := [("length", 1)]) (N := ["thing", "length"]) (sc := defScope s_are_blocks) (by decide +kernel)) (fun _ _ _ _ _ => (pg_name (i := 1) sc_are_blocks.nd rfl (.inl rfl))) (fun _ _ _ _ _ => pts_nil) (fun _ _ _ _ _ => (pe_call (G_is_within.mono (by first | decide | omega)) hr (by rfl) T.g_is_within T.F_is_within.kp T.b_is_within .nil pass0 (pa_cons (pv 1) (pa_cons pe_int (pa_cons (pe_glob (by rfl) T.c_MOST_LENGTH.2 T.c_MOST_LENGTH.1) pa_nil)))))) pa_nil))))), ?_⟩
    refine ⟨v, rfl, v, _, d, rfl, hd, kTuple d, _, rfl, ?_⟩
    rw [isA_tuple]
    cases hd with
    | @tup a xs ds s al =>
      have hl := dpAll_len al
      refine iteF ⟨.ref a, rfl, a, xs, rfl, .inr s, _, _, rfl, rfl, _, rfl, ?_⟩
      have hn : xs.length ≤ sizeLine → True := fun _ => trivial
      unfold areBlocks at q
      simp only at q
      by_cases h1 : 1 ≤ (xs.length : Int)
      · rw [if_pos (decide_eq_true h1)]
        refine ⟨_, _, rfl, rfl, _, rfl, ?_⟩
        by_cases h8 : (xs.length : Int) ≤ 8
        · rw [if_pos ⟨by rw [← hl]; exact h1, by rw [← hl]; exact h8⟩] at q
          rw [decide_eq_true h8]
          refine iteF ?_
          -- all([..])
          refine ⟨.ref a, rfl, a, rfl, ⟨xs, s⟩, fun D nD => ?_⟩
          refine lc_tup (K := K) (a := a) (xs := xs) (fun i H' => Same H H' ∧ H' D = some (.lst ((ds.take i).map fun x => V.bl (within x 1 50)))) ⟨same_new nD, by rw [upd_same]; rfl⟩ (fun i H' _ p => seqT_mono p.1 s) (fun i x H' hx p => ?_) (fun H' p => ?_)
          · obtain ⟨d, e1, e2⟩ := dpAll_get al hx
            have hi : i < xs.length := (List.getElem?_eq_some_iff.mp hx).1
            refine ⟨rfl, x, rfl, x, d, _, _, rfl, Dpm p.1 e2, ?_⟩
            refine ⟨_, p.2, ?_, ?_, ?_⟩
            · rw [List.length_map, List.length_take]
              exact small1000 (by omega)
            · intro b o hb
              have nb : b ≠ D := ne_of_none hb nD
              rw [upd_ne nb]
              exact p.1 b o hb
            · rw [upd_same, List.take_add_one, e1, List.map_append]
              rfl
          · refine ⟨D, (ds.map fun x => within x 1 50), rfl, .inl (.inl ?_), ?_⟩
            · rw [p.2, hl, List.take_length, List.map_map]
              rfl
            · rw [show (ds.map fun x => within x 1 50).all id = ds.all (fun x => within x 1 50) from by rw [List.all_map]; rfl]
              exact q H' p.1
        · rw [if_neg (by rw [← hl]; exact fun z => h8 z.2)] at q
          rw [decide_eq_false h8]
          exact iteT (q H (Same.refl H))
      · rw [if_neg (by rw [← hl]; exact fun z => h1 z.1)] at q
        rw [if_neg (by simp [h1])]
        exact ⟨_, rfl, iteT (q H (Same.refl H))⟩
    | _ => exact iteT (q H (Same.refl H))
end PS

namespace PS
open PySem PySem.Spec PyProof.Rows L2
variable {P : Program} {w : World} {K : PySem.W.Frag} {mg : Str → Option Value} {base : Heap}
theorem tupOf2 {d : PyData} (h : tupOf d 2 = true) : ∃ r b, d = .tuple [r, b] := by
  cases d with
  | tuple ds =>
    have h1 : (ds.length : Int) = 2 := of_decide_eq_true h
    match ds, h1 with
    | [r, b], _ => exact ⟨r, b, rfl⟩
    | [], h => simp at h
    | [_], h => simp at h
    | _ :: _ :: _ :: _, h => simp at h; omega
  | _ => simp [tupOf] at h
theorem tupOf3 {d : PyData} (h : tupOf d 3 = true) : ∃ r b c, d = .tuple [r, b, c] := by
  cases d with
  | tuple ds =>
    have h1 : (ds.length : Int) = 3 := of_decide_eq_true h
    match ds, h1 with
    | [r, b, c], _ => exact ⟨r, b, c, rfl⟩
    | [], h => simp at h
    | [_], h => simp at h
    | [_, _], h => simp at h
    | _ :: _ :: _ :: _ :: _, h => simp at h; omega
  | _ => simp [tupOf] at h
theorem dp_two {H : Hp} {v : V} {r b : PyData} (h : Dp K H v (.tuple [r, b])) : ∃ a x y, v = .ref a ∧ SqT K H a [x, y] ∧ Dp K H x r ∧ Dp K H y b := by
  obtain ⟨a, xs, rfl, s, al⟩ := dp_tup h
  cases al with
  | cons h1 h2 =>
    cases h2 with
    | cons h3 h4 => cases h4; exact ⟨a, _, _, rfl, s, h1, h3⟩
theorem dp_three {H : Hp} {v : V} {r b c : PyData} (h : Dp K H v (.tuple [r, b, c])) : ∃ a x y z, v = .ref a ∧ SqT K H a [x, y, z] ∧ Dp K H x r ∧ Dp K H y b ∧ Dp K H z c := by
  obtain ⟨a, xs, rfl, s, al⟩ := dp_tup h
  cases al with
  | cons h1 h2 =>
    cases h2 with
    | cons h3 h4 =>
      cases h4 with
      | cons h5 h6 => cases h6; exact ⟨a, _, _, _, rfl, s, h1, h3, h5⟩
theorem dp_shelf {H : Hp} {v : V} {room : Int} {ls : List Int} (h : Dp K H v (shD room ls)) : ∃ a b, v = .ref a ∧ SqT K H a [.int room, .ref b] ∧ SqT K H b (iV ls) := by
  obtain ⟨a, x, y, rfl, s, h1, h2⟩ := dp_two h
  obtain ⟨b, rfl, t⟩ := dp_tI h2
  cases dp_int h1
  exact ⟨a, b, rfl, s, t⟩
/-! ### is_shelf, need_shelf -/
def sp_is_shelf (K : PySem.W.Frag) : Sp := fun vs H Q _ => ∃ v d, vs = [v] ∧ Dp K H v d ∧ RB H Q (isShelf d)
theorem ok_is_shelf (T : Tx K mg) : FnOk P w K mg base CX0 4 T.f_is_shelf T.fd_is_shelf ["thing"] (sp_is_shelf K) := by
  have G_is_tuple_of := ok_is_tuple_of (P := P) (w := w) (base := base) T
  have G_are_blocks := ok_are_blocks (P := P) (w := w) (base := base) T
  have G_is_within := ok_is_within (P := P) (w := w) (base := base) T
  refine T.F_is_shelf.ok sc_is_shelf (fun vs H Q E h => ?_) (fun cdv A outer s H vs Q E hr h => ?_)
  · obtain ⟨v, d, rfl, _⟩ := h
    rfl
  · obtain ⟨v, d, rfl, hd, q⟩ := h
    refine ⟨_, (pss_cons (ps_if (pt_not (pt_val (pe_call (G_is_tuple_of.mono (by first | decide | omega)) hr (by rfl) T.g_is_tuple_of T.F_is_tuple_of.kp T.b_is_tuple_of .nil pass0 (pa_cons (pv 0) (pa_cons pe_int pa_nil))))) (pss_one (ps_ret pe_bl)) pss_nil)
      (pss_cons (ps_asg (pv 0) (pg_tup rfl (pgs_cons (pg_name (i := 1) sc_is_shelf.nd rfl (.inl rfl)) (pgs_cons (pg_name (i := 2) sc_is_shelf.nd rfl (.inl rfl)) pgs_nil))))
      (pss_cons (ps_if (pt_not (pt_val (pe_call (G_are_blocks.mono (by first | decide | omega)) hr (by rfl) T.g_are_blocks T.F_are_blocks.kp T.b_are_blocks .nil pass0 (pa_cons (pv 2) pa_nil)))) (pss_one (ps_ret pe_bl)) pss_nil)
      (pss_cons (ps_set (i := 3) sc_is_shelf.nd rfl (.inl rfl) (pe_callB (cr_sumT rfl) (by rfl) T.n_sum (by decide +kernel) (pa_cons (pv 2) pa_nil)))
      (pss_one (ps_ret (pe_call (G_is_within.mono (by first | decide | omega)) hr (by rfl) T.g_is_within T.F_is_within.kp T.b_is_within .nil pass0 (pa_cons (pv 1) (pa_cons (pv 3) (pa_cons (pe_op op_add (pv 3) (pe_glob (by rfl) T.c_MOST_PLAY.2 T.c_MOST_PLAY.1)) pa_nil)))))))))), ?_⟩
    refine ⟨v, rfl, v, d, _, rfl, hd, _, rfl, ?_⟩
    cases e : tupOf d 2 with
    | false =>
      have ef : isShelf d = false := by
        unfold isShelf
        split
        · simp [tupOf] at e
        · rfl
      rw [ef] at q
      exact iteT (q H (Same.refl H))
    | true =>
      refine iteF ?_
      obtain ⟨r, b, rfl⟩ := tupOf2 e
      obtain ⟨a, x, y, rfl, s, h1, h2⟩ := dp_two hd
      refine ⟨.ref a, rfl, a, [x, y], rfl, s, rfl, x, [y], rfl, y, [], rfl, rfl, ?_⟩
      refine ⟨y, rfl, y, b, rfl, h2, fun H' sm => ⟨_, rfl, ?_⟩⟩
      cases e2 : areBlocks b with
      | false =>
        have ef : isShelf (.tuple [r, b]) = false := by
          unfold isShelf
          split
          · rename_i h; cases h
            rw [e2]; rfl
          · rfl
        rw [ef] at q
        exact iteT (q H' sm)
      | true =>
        refine iteF ?_
        cases b with
        | tuple bs =>
          obtain ⟨ls, rfl, n1, n8, l1⟩ := areBlocks_ints e2
          obtain ⟨c, rfl, t⟩ := dp_tI h2
          refine ⟨.ref c, rfl, c, ls, rfl, seqT_mono sm t, ?_⟩
          refine ⟨x, rfl, _, rfl, _, rfl, _, _, rfl, rfl, x, r, _, _, rfl, Dpm sm h1, ?_⟩
          unfold isShelf at q
          simp only at q
          rw [if_pos e2, intOf_iD] at q
          exact q H' sm
        | _ => simp [areBlocks] at e2
def sp_need_shelf (K : PySem.W.Frag) : Sp := fun vs H Q _ => ∃ v d, vs = [v] ∧ Dp K H v d ∧ isShelf d = true ∧ ∀ H', Same H H' → Q .non H'
theorem ok_need_shelf (T : Tx K mg) : FnOk P w K mg base CX0 5 T.f_need_shelf T.fd_need_shelf ["thing"] (sp_need_shelf K) := by
  have G_is_shelf := ok_is_shelf (P := P) (w := w) (base := base) T
  refine T.F_need_shelf.ok sc_need_shelf (fun vs H Q E h => ?_) (fun cdv A outer s H vs Q E hr h => ?_)
  · obtain ⟨v, d, rfl, _⟩ := h
    rfl
  · obtain ⟨v, d, rfl, hd, e, q⟩ := h
    refine ⟨_, (pss_one (ps_if (pt_not (pt_val (pe_call (G_is_shelf.mono (by first | decide | omega)) hr (by rfl) T.g_is_shelf T.F_is_shelf.kp T.b_is_shelf .nil pass0 (pa_cons (pv 0) pa_nil)))) (pss_one ps_never) pss_nil)), ?_⟩
    refine ⟨v, rfl, v, d, rfl, hd, fun H' sm => ⟨_, rfl, ?_⟩⟩
    rw [e]
    exact iteF (q H' sm)
/-! ### play_of, gap_length -/
def sp_play_of (K : PySem.W.Frag) : Sp := fun vs H Q _ => ∃ v room ls, vs = [v] ∧ Dp K H v (shD room ls) ∧ Q (.int (room - ls.sum)) H
theorem ok_play_of (T : Tx K mg) : FnOk P w K mg base CX0 1 T.f_play_of T.fd_play_of ["shelf"] (sp_play_of K) := by
  refine T.F_play_of.ok sc_play_of (fun vs H Q E h => ?_) (fun cdv A outer s H vs Q E hr h => ?_)
  · obtain ⟨v, d, _, rfl, _⟩ := h
    rfl
  · obtain ⟨v, room, ls, rfl, hd, q⟩ := h
    obtain ⟨a, b, rfl, s, t⟩ := dp_shelf hd
    refine ⟨_, (pss_cons (ps_asg (pv 0) (pg_tup rfl (pgs_cons (pg_name (i := 1) sc_play_of.nd rfl (.inl rfl)) (pgs_cons (pg_name (i := 2) sc_play_of.nd rfl (.inl rfl)) pgs_nil))))
      (pss_one (ps_ret (pe_op op_sub (pv 1) (pe_callB (cr_sumT rfl) (by rfl) T.n_sum (by decide +kernel) (pa_cons (pv 2) pa_nil)))))), ?_⟩
    exact ⟨.ref a, rfl, a, _, rfl, s, rfl, _, _, rfl, _, [], rfl, rfl, _, rfl, _, rfl, b, ls, rfl, t, _, _, rfl, rfl, q⟩
def sp_gap_length (K : PySem.W.Frag) : Sp := fun vs H Q _ => ∃ v room ls g, vs = [v, .int (g : Nat)] ∧ Dp K H v (shD room ls) ∧ RI H Q (pre ls g)
theorem ok_gap_length (T : Tx K mg) : FnOk P w K mg base CX0 1 T.f_gap_length T.fd_gap_length ["shelf", "gap"] (sp_gap_length K) := by
  refine T.F_gap_length.ok sc_gap_length (fun vs H Q E h => ?_) (fun cdv A outer s H vs Q E hr h => ?_)
  · obtain ⟨v, d, _, _, rfl, _⟩ := h
    rfl
  · obtain ⟨v, room, ls, g, rfl, hd, q⟩ := h
    obtain ⟨a, b, rfl, s, t⟩ := dp_shelf hd
    refine ⟨_, (pss_one (ps_ret (pe_callB (cr_sumT rfl) (by rfl) T.n_sum (by decide +kernel) (pa_cons (pe_slice sl_tupA (pe_ix ix_tup (pv 0) pe_int (fun _ _ => rfl)) po_none (po_some (pv 1))) pa_nil)))), ?_⟩
    refine ⟨.ref a, rfl, a, _, 1, _, rfl, rfl, s, atI_nat (j := 1) rfl, _, rfl, _, rfl, ?_⟩
    refine slT_to (k := g) t fun p H' sm st => ⟨p, ls.take g, rfl, ?_, q H' sm⟩
    rw [← List.map_take] at st
    exact st
/-! ### is_stand, need_stand -/
def sp_is_stand (K : PySem.W.Frag) : Sp := fun vs H Q _ => ∃ v u room ls d, vs = [v, u] ∧ Dp K H v (shD room ls) ∧ ShOk room ls ∧ Dp K H u d ∧ RB H Q (isStand room ls d)
theorem ok_is_stand (T : Tx K mg) : FnOk P w K mg base CX0 6 T.f_is_stand T.fd_is_stand ["shelf", "thing"] (sp_is_stand K) := by
  have G_need_shelf := ok_need_shelf (P := P) (w := w) (base := base) T
  have G_is_tuple_of := ok_is_tuple_of (P := P) (w := w) (base := base) T
  have G_is_whole := ok_is_whole (P := P) (w := w) (base := base) T
  refine T.F_is_stand.ok sc_is_stand (fun vs H Q E h => ?_) (fun cdv A outer s H vs Q E hr h => ?_)
  · obtain ⟨v, u, _, _, d, rfl, _⟩ := h
    rfl
  · obtain ⟨v, u, room, ls, d, rfl, hs, sh, hd, q⟩ := h
    refine ⟨_, (pss_cons (ps_expr (pe_call (G_need_shelf.mono (by first | decide | omega)) hr (by rfl) T.g_need_shelf T.F_need_shelf.kp T.b_need_shelf .nil pass0 (pa_cons (pv 0) pa_nil)))
      (pss_cons (ps_asg (pv 0) (pg_tup rfl (pgs_cons (pg_name (i := 2) sc_is_stand.nd rfl (.inl rfl)) (pgs_cons (pg_name (i := 3) sc_is_stand.nd rfl (.inl rfl)) pgs_nil))))
      (pss_cons (ps_if (pt_not (pt_val (pe_call (G_is_tuple_of.mono (by first | decide | omega)) hr (by rfl) T.g_is_tuple_of T.F_is_tuple_of.kp T.b_is_tuple_of .nil pass0 (pa_cons (pv 1) (pa_cons (pe_callB call_len_seq (by rfl) T.n_len (by decide +kernel) (pa_cons (pv 3) pa_nil)) pa_nil))))) (pss_one (ps_ret pe_bl)) pss_nil)
      (pss_cons (ps_set (i := 4) sc_is_stand.nd rfl (.inl rfl) pe_int)
      (pss_cons (ps_for PassesOwn.never rfl (pi_zip2 false false (by rfl) T.n_zip (pa_cons (pv 1) (pa_cons (pv 3) pa_nil))) (pg_tup rfl (pgs_cons (pg_name (i := 5) sc_is_stand.nd rfl (.inl rfl)) (pgs_cons (pg_name (i := 6) sc_is_stand.nd rfl (.inl rfl)) pgs_nil)))
      (pss_cons (ps_if (PW.pt (pw_or (pt_not (pt_val (pe_call (G_is_whole.mono (by first | decide | omega)) hr (by rfl) T.g_is_whole T.F_is_whole.kp T.b_is_whole .nil pass0 (pa_cons (pv 5) pa_nil)))) (pw_or1 (pt_cmpR op_lt (pv 5) (pv 4) (nomark _))))) (pss_one (ps_ret pe_bl)) pss_nil)
      (pss_one (ps_set (i := 4) sc_is_stand.nd rfl (.inl rfl) (pe_op op_add (pv 5) (pv 6))))))
      (pss_one (ps_ret (pe_cmpR op_le (pv 4) (pv 2) (nomark _))))))))), ?_⟩
    refine ⟨v, rfl, v, _, rfl, hs, isShelf_ok sh, fun H1 s1 => ?_⟩
    obtain ⟨a, b, rfl, sa, sb⟩ := dp_shelf (Dpm s1 hs)
    refine ⟨.ref a, rfl, a, _, rfl, sa, rfl, _, _, rfl, _, [], rfl, rfl, ?_⟩
    refine ⟨u, rfl, .ref b, rfl, b, _, rfl, .inr sb, u, d, _, rfl, Dpm s1 hd, _, rfl, ?_⟩
    rw [List.length_map]
    cases e : tupOf d ls.length with
    | false =>
      have ef : isStand room ls d = false := by
        unfold isStand
        cases d with
        | tuple ds =>
          simp only
          rw [if_neg (of_decide_eq_false e)]
        | _ => rfl
      rw [ef] at q
      exact iteT (q H1 s1)
    | true =>
      refine iteF ?_
      cases d with
      | tuple ds =>
        have el : (ds.length : Int) = ls.length := of_decide_eq_true e
        unfold isStand at q
        simp only at q
        rw [if_pos el] at q
        obtain ⟨c, xs, rfl, sc, al⟩ := dp_tup (Dpm s1 hd)
        have hxl := dpAll_len al
        refine ⟨.ref c, rfl, .ref b, rfl, c, b, xs, iV ls, rfl, sc, sb, ?_⟩
        refine for_it (walk_2 (n := ls.length) (xs := xs) (ys := iV ls) (by rw [List.length_map]; omega)) (fun i σ H' => Same H1 H' ∧ ∃ e y5 y6, σ = [some (.ref a), some (.ref c), some (.int room), some (.ref b), some (.int e), y5, y6] ∧ standG room e (ds.drop i) (ls.drop i) = standG room 0 ds ls)
          ⟨Same.refl H1, 0, none, none, rfl, rfl⟩ (fun i σ H' _ p => ⟨seqT_mono p.1 sc, seqT_mono p.1 sb⟩) (fun i x σ H' H2 hi p y => ?_) (fun σ H' p => ?_)
        · obtain ⟨s2, e0, y5, y6, rfl, eq⟩ := p
          obtain ⟨Tt, x, y, rfl, nT, rfl, hx, hy⟩ := y
          have s3 : Same H1 (upd H' Tt (.tup [x, y])) := s2.trans (same_new nT)
          obtain ⟨dx, e1, e2⟩ := dpAll_get al hx
          have hy' : y = .int ls[i] := by
            rw [List.getElem?_map, List.getElem?_eq_getElem hi] at hy
            exact (Option.some.inj hy).symm
          subst hy'
          refine ⟨Tt, _, rfl, .inl (.inl upd_same), rfl, _, _, rfl, _, [], rfl, rfl, ?_⟩
          refine ⟨x, rfl, x, dx, rfl, Dpm s3 e2, _, rfl, ?_⟩
          have hd1 : i < ds.length := by omega
          have e1' : ds[i] = dx := by
            rw [List.getElem?_eq_getElem hd1] at e1
            exact Option.some.inj e1
          rw [List.drop_eq_getElem_cons hd1, List.drop_eq_getElem_cons hi, e1'] at eq
          cases e2 with
          | int k =>
            refine iteF ⟨_, rfl, _, rfl, _, _, rfl, rfl, _, rfl, ?_⟩
            have eq : (if k < e0 then false else standG room (k + ls[i]) (ds.drop (i + 1)) (ls.drop (i + 1))) = standG room 0 ds ls := eq
            by_cases hk : k < e0
            · rw [if_pos hk] at eq
              rw [← eq] at q
              rw [decide_eq_true hk]
              exact iteT (q _ (s1.trans s3))
            · rw [if_neg hk] at eq
              rw [decide_eq_false hk]
              exact iteF ⟨_, rfl, _, rfl, _, _, rfl, rfl, s3, _, _, _, rfl, eq⟩
          | _ =>
            refine iteT ?_
            have eq : false = standG room 0 ds ls := eq
            rw [← eq] at q
            exact q _ (s1.trans s3)
        · obtain ⟨s2, e0, y5, y6, rfl, eq⟩ := p
          rw [List.drop_of_length_le (by omega), List.drop_of_length_le (Nat.le_refl _)] at eq
          refine ⟨_, rfl, _, rfl, _, _, rfl, rfl, ?_⟩
          rw [← eq] at q
          exact q _ (s1.trans s2)
      | _ => simp [tupOf] at e
def sp_need_stand (K : PySem.W.Frag) : Sp := fun vs H Q _ => ∃ v u room ls d, vs = [v, u] ∧ Dp K H v (shD room ls) ∧ ShOk room ls ∧ Dp K H u d ∧ isStand room ls d = true ∧ ∀ H', Same H H' → Q .non H'
theorem ok_need_stand (T : Tx K mg) : FnOk P w K mg base CX0 7 T.f_need_stand T.fd_need_stand ["shelf", "thing"] (sp_need_stand K) := by
  have G_is_stand := ok_is_stand (P := P) (w := w) (base := base) T
  refine T.F_need_stand.ok sc_need_stand (fun vs H Q E h => ?_) (fun cdv A outer s H vs Q E hr h => ?_)
  · obtain ⟨v, u, _, _, d, rfl, _⟩ := h
    rfl
  · obtain ⟨v, u, room, ls, d, rfl, hs, sh, hd, e, q⟩ := h
    refine ⟨_, (pss_one (ps_if (pt_not (pt_val (pe_call (G_is_stand.mono (by first | decide | omega)) hr (by rfl) T.g_is_stand T.F_is_stand.kp T.b_is_stand .nil pass0 (pa_cons (pv 0) (pa_cons (pv 1) pa_nil))))) (pss_one ps_never) pss_nil)), ?_⟩
    refine ⟨v, rfl, u, rfl, v, u, room, ls, d, rfl, hs, sh, hd, fun H' sm => ⟨_, rfl, ?_⟩⟩
    rw [e]
    exact iteF (q H' sm)
end PS

namespace PS
open PySem PySem.Spec PyProof.Rows L2
variable {P : Program} {w : World} {K : PySem.W.Frag} {mg : Str → Option Value} {base : Heap}
/-! ### is_gap, is_push, is_row -/
def sp_is_gap (K : PySem.W.Frag) : Sp := fun vs H Q _ => ∃ v s g room ls sd gd, vs = [v, s, g] ∧ Dp K H v (shD room ls) ∧ Dp K H s sd ∧ sd.depth ≤ 64 ∧ Dp K H g gd ∧ Q (.bl (isGap ls.length sd gd)) H
theorem ok_is_gap (T : Tx K mg) : FnOk P w K mg base CX0 3 T.f_is_gap T.fd_is_gap ["shelf", "side", "thing"] (sp_is_gap K) := by
  have G_is_within := ok_is_within (P := P) (w := w) (base := base) T
  refine T.F_is_gap.ok sc_is_gap (fun vs H Q E h => ?_) (fun cdv A outer s H vs Q E hr h => ?_)
  · obtain ⟨v, s, g, _, _, _, _, rfl, _⟩ := h
    rfl
  · obtain ⟨v, s, g, room, ls, sd, gd, rfl, hv, hs, dep, hg, q⟩ := h
    obtain ⟨a, b, rfl, sa, sb⟩ := dp_shelf hv
    refine ⟨_, (pss_cons (ps_set (i := 3) sc_is_gap.nd rfl (.inl rfl) (pe_callB call_len_seq (by rfl) T.n_len (by decide +kernel) (pa_cons (pe_ix ix_tup (pv 0) pe_int (fun _ _ => rfl)) pa_nil)))
      (pss_cons (ps_if (pt_cmpR (op_eqP hr.units) (pv 1) pe_str (nomark _)) (pss_one (ps_ret (pe_call (G_is_within.mono (by first | decide | omega)) hr (by rfl) T.g_is_within T.F_is_within.kp T.b_is_within .nil pass0 (pa_cons (pv 2) (pa_cons pe_int (pa_cons (pe_op op_sub (pv 3) pe_int) pa_nil)))))) pss_nil)
      (pss_cons (ps_if (pt_cmpR (op_eqP hr.units) (pv 1) pe_str (nomark _)) (pss_one (ps_ret (pe_call (G_is_within.mono (by first | decide | omega)) hr (by rfl) T.g_is_within T.F_is_within.kp T.b_is_within .nil pass0 (pa_cons (pv 2) (pa_cons pe_int (pa_cons (pv 3) pa_nil)))))) pss_nil)
      (pss_one (ps_ret pe_bl))))), ?_⟩
    have hl : (iV ls).length = ls.length := List.length_map ..
    refine ⟨.ref a, rfl, a, _, 1, _, rfl, rfl, sa, atI_nat (j := 1) rfl, b, _, rfl, .inr sb, ?_⟩
    rw [hl]
    refine ⟨s, rfl, sd, _, hs, .str _, dep, _, rfl, ?_⟩
    unfold isGap at q
    cases e : PyData.eqv sd (.str "right") with
    | true =>
      rw [if_pos e] at q
      exact iteT ⟨g, rfl, _, rfl, _, _, rfl, rfl, g, gd, _, _, rfl, hg, q⟩
    | false =>
      rw [if_neg (by simp [e])] at q
      refine iteF ⟨s, rfl, sd, _, hs, .str _, dep, _, rfl, ?_⟩
      cases e2 : PyData.eqv sd (.str "left") with
      | true =>
        rw [if_pos e2] at q
        exact iteT ⟨g, rfl, _, rfl, g, gd, _, _, rfl, hg, q⟩
      | false =>
        rw [if_neg (by simp [e2])] at q
        exact iteF q
theorem within_int {d : PyData} {lo hi : Int} (h : within d lo hi = true) : ∃ i, d = .int i ∧ lo ≤ i ∧ i ≤ hi := by
  cases d with
  | int i =>
    have h : (if lo ≤ i then decide (i ≤ hi) else false) = true := h
    by_cases hl : lo ≤ i
    · rw [if_pos hl] at h
      exact ⟨i, rfl, hl, of_decide_eq_true h⟩
    · rw [if_neg hl] at h; cases h
  | _ => simp [within] at h
theorem isGap_int {n : Int} {s g : PyData} (h : isGap n s g = true) : ∃ k : Nat, g = .int (k : Int) := by
  unfold isGap at h
  split at h
  · obtain ⟨i, rfl, h0, _⟩ := within_int h
    exact ⟨i.toNat, by rw [Int.toNat_of_nonneg h0]⟩
  · split at h
    · obtain ⟨i, rfl, h0, _⟩ := within_int h
      exact ⟨i.toNat, by rw [Int.toNat_of_nonneg (by omega)]⟩
    · cases h
def sp_is_push (K : PySem.W.Frag) : Sp := fun vs H Q _ => ∃ v u room ls d, vs = [v, u] ∧ Dp K H v (shD room ls) ∧ Dp K H u d ∧ d.depth ≤ 64 ∧ RB H Q (isPush room ls d)
theorem ok_is_push (T : Tx K mg) : FnOk P w K mg base CX0 4 T.f_is_push T.fd_is_push ["shelf", "thing"] (sp_is_push K) := by
  have G_is_tuple_of := ok_is_tuple_of (P := P) (w := w) (base := base) T
  have G_is_gap := ok_is_gap (P := P) (w := w) (base := base) T
  have G_gap_length := ok_gap_length (P := P) (w := w) (base := base) T
  have G_is_within := ok_is_within (P := P) (w := w) (base := base) T
  have G_play_of := ok_play_of (P := P) (w := w) (base := base) T
  refine T.F_is_push.ok sc_is_push (fun vs H Q E h => ?_) (fun cdv A outer s H vs Q E hr h => ?_)
  · obtain ⟨v, u, _, _, d, rfl, _⟩ := h
    rfl
  · obtain ⟨v, u, room, ls, d, rfl, hv, hd, dep, q⟩ := h
    refine ⟨_, (pss_cons (ps_if (pt_not (pt_val (pe_call (G_is_tuple_of.mono (by first | decide | omega)) hr (by rfl) T.g_is_tuple_of T.F_is_tuple_of.kp T.b_is_tuple_of .nil pass0 (pa_cons (pv 1) (pa_cons pe_int pa_nil))))) (pss_one (ps_ret pe_bl)) pss_nil)
      (pss_cons (ps_asg (pv 1) (pg_tup rfl (pgs_cons (pg_name (i := 2) sc_is_push.nd rfl (.inl rfl)) (pgs_cons (pg_name (i := 3) sc_is_push.nd rfl (.inl rfl)) (pgs_cons (pg_name (i := 4) sc_is_push.nd rfl (.inl rfl)) pgs_nil)))))
      (pss_cons (ps_if (pt_not (pt_val (pe_call (G_is_gap.mono (by first | decide | omega)) hr (by rfl) T.g_is_gap T.F_is_gap.kp T.b_is_gap .nil pass0 (pa_cons (pv 0) (pa_cons (pv 2) (pa_cons (pv 3) pa_nil)))))) (pss_one (ps_ret pe_bl)) pss_nil)
      (pss_cons (ps_set (i := 5) sc_is_push.nd rfl (.inl rfl) (pe_call (G_gap_length.mono (by first | decide | omega)) hr (by rfl) T.g_gap_length T.F_gap_length.kp T.b_gap_length .nil pass0 (pa_cons (pv 0) (pa_cons (pv 3) pa_nil))))
      (pss_one (ps_ret (pe_call (G_is_within.mono (by first | decide | omega)) hr (by rfl) T.g_is_within T.F_is_within.kp T.b_is_within .nil pass0 (pa_cons (pv 4) (pa_cons (pv 5) (pa_cons (pe_op op_add (pv 5) (pe_call (G_play_of.mono (by first | decide | omega)) hr (by rfl) T.g_play_of T.F_play_of.kp T.b_play_of .nil pass0 (pa_cons (pv 0) pa_nil))) pa_nil)))))))))), ?_⟩
    refine ⟨u, rfl, u, d, _, rfl, hd, _, rfl, ?_⟩
    cases e : tupOf d 3 with
    | false =>
      have ef : isPush room ls d = false := by
        unfold isPush
        split
        · simp [tupOf] at e
        · rfl
      rw [ef] at q
      exact iteT (q H (Same.refl H))
    | true =>
      refine iteF ?_
      obtain ⟨s, g, p, rfl⟩ := tupOf3 e
      obtain ⟨a, x, y, z, rfl, sq, h1, h2, h3⟩ := dp_three hd
      have dall : PyData.depthAll [s, g, p] + 1 ≤ 64 := by simpa [PyData.depth] using dep
      have ds : s.depth ≤ 64 := Nat.le_trans (depth_of_all (n := 63) [s, g, p] (by omega) s (by simp)) (by decide)
      refine ⟨.ref a, rfl, a, _, rfl, sq, rfl, _, _, rfl, _, _, rfl, _, [], rfl, rfl, ?_⟩
      refine ⟨v, rfl, x, rfl, y, rfl, v, x, y, room, ls, s, g, rfl, hv, h1, ds, h2, _, rfl, ?_⟩
      unfold isPush at q
      simp only at q
      cases e2 : isGap ls.length s g with
      | false =>
        rw [if_neg (by simp [e2])] at q
        exact iteT (q H (Same.refl H))
      | true =>
        rw [if_pos e2] at q
        refine iteF ?_
        obtain ⟨k, rfl⟩ := isGap_int e2
        cases dp_int h2
        refine ⟨v, rfl, _, rfl, v, room, ls, k, rfl, hv, fun H' sm => ?_⟩
        refine ⟨z, rfl, _, rfl, _, rfl, v, rfl, v, room, ls, rfl, Dpm sm hv, _, _, rfl, rfl, z, p, _, _, rfl, Dpm sm h3, ?_⟩
        simpa [intOf] using q H' sm
end PS

namespace PS
open PySem PySem.Spec PyProof.Rows L2
variable {P : Program} {w : World} {K : PySem.W.Frag} {mg : Str → Option Value} {base : Heap}
/-- what is known of the places while a push to the right goes on -/
def zR (g : Nat) (b : Int) (y : Nat → Int) (i : Nat) : Nat → Int := fun j => if g ≤ j ∧ j < g + i then max (y j) b else y j
def zL (g : Nat) (b : Int) (y : Nat → Int) (i : Nat) : Nat → Int := fun j => if g - i ≤ j ∧ j < g then min (y j) b else y j
def eR (g : Nat) (b : Int) (y : Nat → Int) (i : Nat) : Int := if i = 0 then b else max (y (g + i - 1)) b
def eL (g : Nat) (b : Int) (y : Nat → Int) (i : Nat) : Int := if i = 0 then b else min (y (g - i)) b
theorem zR_step {n g i : Nat} {pl b : Int} {y : Nat → Int} (h : Rise n pl y) (hi : g + i < n) : max (zR g b y i (g + i)) (eR g b y i) = max (y (g + i)) b := by
  have e1 : zR g b y i (g + i) = y (g + i) := by unfold zR; rw [if_neg (by omega)]
  rw [e1]
  unfold eR
  split
  · rfl
  · have := h.up (g + i - 1) (by omega)
    rw [show g + i - 1 + 1 = g + i from by omega] at this
    omega
theorem zL_step {n g i : Nat} {pl b : Int} {y : Nat → Int} (h : Rise n pl y) (hg : g ≤ n) (hi : i < g) : min (zL g b y i (g - 1 - i)) (eL g b y i) = min (y (g - 1 - i)) b := by
  have e1 : zL g b y i (g - 1 - i) = y (g - 1 - i) := by unfold zL; rw [if_neg (by omega)]
  rw [e1]
  unfold eL
  split
  · rfl
  · have := h.up (g - 1 - i) (by omega)
    rw [show g - 1 - i + 1 = g - i from by omega] at this
    omega
theorem zR_next {ls : List Int} {g i : Nat} {b : Int} {y : Nat → Int} (hi : g + i < ls.length) : (stL ls (zR g b y i)).set (g + i) (max (y (g + i)) b + pre ls (g + i)) = stL ls (zR g b y (i + 1)) := by
  rw [stL_set hi]
  apply stL_congr
  intro j hj
  unfold zR
  by_cases e : j = g + i
  · rw [if_pos e, if_pos (by omega)]
    subst e
    omega
  · rw [if_neg e]
    by_cases h2 : g ≤ j ∧ j < g + i
    · rw [if_pos h2, if_pos (by omega)]
    · rw [if_neg h2, if_neg (by omega)]
theorem zL_next {ls : List Int} {g i : Nat} {b : Int} {y : Nat → Int} (hg : g ≤ ls.length) (hi : i < g) : (stL ls (zL g b y i)).set (g - 1 - i) (min (y (g - 1 - i)) b + pre ls (g - 1 - i)) = stL ls (zL g b y (i + 1)) := by
  rw [stL_set (by omega)]
  apply stL_congr
  intro j hj
  unfold zL
  by_cases e : j = g - 1 - i
  · rw [if_pos e, if_pos (by omega)]
    subst e
    omega
  · rw [if_neg e]
    by_cases h2 : g - i ≤ j ∧ j < g
    · rw [if_pos h2, if_pos (by omega)]
    · rw [if_neg h2, if_neg (by omega)]
/-! ### pushed_right, pushed_left -/
def sp_pushed_right (K : PySem.W.Frag) : Sp := fun vs H Q _ => ∃ v u ls y g b pl, vs = [v, u, .int (g : Nat), .int (b + pre ls g)] ∧ Dp K H v (tI ls) ∧ Dp K H u (tI (stL ls y)) ∧ Rise ls.length pl y ∧ ls.length ≤ 8 ∧ g ≤ ls.length ∧ RD K H Q (tI (stL ls (pR g b y)))
theorem ok_pushed_right (T : Tx K mg) : FnOk P w K mg base CX0 1 T.f_pushed_right T.fd_pushed_right ["blocks", "stand", "gap", "place"] (sp_pushed_right K) := by
  refine T.F_pushed_right.ok sc_pushed_right (fun vs H Q E h => ?_) (fun cdv A outer s H vs Q E hr h => ?_)
  · obtain ⟨_, _, _, _, _, _, _, rfl, _⟩ := h
    rfl
  · obtain ⟨v, u, ls, y, g, b, pl, rfl, hv, hu, ri, n8, hg, q⟩ := h
    obtain ⟨a, rfl, sa⟩ := dp_tI hv
    obtain ⟨c, rfl, sc⟩ := dp_tI hu
    refine ⟨_, (pss_cons (ps_set (i := 4) sc_pushed_right.nd rfl (.inl rfl) (pe_callTy call_list_of (by rfl) T.n_list (by decide +kernel) (pa_cons (pv 1) pa_nil)))
      (pss_cons (ps_set (i := 5) sc_pushed_right.nd rfl (.inl rfl) (pv 3))
      (pss_cons (ps_for PassesOwn.never rfl (pi_range2 (by rfl) T.n_range (pa_cons (pv 2) (pa_cons (pe_callB call_len_seq (by rfl) T.n_len (by decide +kernel) (pa_cons (pv 0) pa_nil)) pa_nil))) (pg_name (i := 6) sc_pushed_right.nd rfl (.inl rfl))
      (pss_cons (ps_asg (pe_callB (call_max2 rfl) (by rfl) T.n_max (by decide +kernel) (pa_cons (pe_ix ix_list (pv 4) (pv 6) (fun _ _ => rfl)) (pa_cons (pv 5) pa_nil))) (pg_sub (pv 4) (pv 6) set_list))
      (pss_one (ps_set (i := 5) sc_pushed_right.nd rfl (.inl rfl) (pe_op op_add (pe_ix ix_list (pv 4) (pv 6) (fun _ _ => rfl)) (pe_ix ix_tup (pv 0) (pv 6) (fun _ _ => rfl)))))))
      (pss_one (ps_ret (pe_callTy call_tuple_of (by rfl) T.n_tuple (by decide +kernel) (pa_cons (pv 4) pa_nil))))))), ?_⟩
    refine ⟨.ref c, rfl, c, _, rfl, .inr sc, fun l nl => ?_⟩
    refine ⟨_, rfl, ?_⟩
    refine ⟨_, rfl, .ref a, rfl, a, _, rfl, .inr (seqT_mono (same_new nl) sa), _, _, rfl, ⟨by omega, by omega, by omega, by rw [iV_len]; omega⟩, ?_⟩
    refine for_range (lo := (g : Int)) (n := (((iV ls).length : Int) - (g : Int)).toNat) (fun i σ H' => Same H H' ∧ H' l = some (.lst (iV (stL ls (zR g b y i)))) ∧ ∃ y6, σ = [some (.ref a), some (.ref c), some (.int (g : Nat)), some (.int (b + pre ls g)), some (.ref l), some (.int (eR g b y i + pre ls (g + i))), y6])
      ⟨same_new nl, ?_, none, ?_⟩ (fun i σ H' hi p => ?_) (fun σ H' p => ?_)
    · rw [upd_same]
      congr 3
      apply stL_congr
      intro j hj
      unfold zR
      rw [if_neg (by omega)]
    · rfl
    · obtain ⟨s1, hl, y6, rfl⟩ := p
      rw [iV_len] at hi
      have hgi : g + i < ls.length := by omega
      have eat : (g : Int) + (i : Int) = ((g + i : Nat) : Int) := by omega
      have g1 := iV_get (stL_get (y := zR g b y i) hgi)
      have e1 : (if eR g b y i + pre ls (g + i) > zR g b y i (g + i) + pre ls (g + i) then eR g b y i + pre ls (g + i) else zR g b y i (g + i) + pre ls (g + i)) = max (y (g + i)) b + pre ls (g + i) := by
        rw [← zR_step ri hgi]
        split <;> omega
      refine ⟨.ref l, rfl, _, rfl, l, _, _, _, rfl, rfl, .inl (.inl hl), at_of eat g1, _, rfl, _, _, rfl, ?_⟩
      rw [e1]
      refine ⟨.ref l, rfl, _, rfl, l, _, _, g + i, rfl, rfl, hl, ixN_at eat (by rw [iV_len, stL_len]; exact hgi), ?_⟩
      rw [iV_set, zR_next hgi]
      have g2 := iV_get (stL_get (y := zR g b y (i + 1)) hgi)
      have e2 : zR g b y (i + 1) (g + i) = max (y (g + i)) b := by unfold zR; rw [if_pos (by omega)]
      have s2 : Same H (upd H' l (.lst (iV (stL ls (zR g b y (i + 1)))))) := fun b o hb => by
        rw [upd_ne (ne_of_none hb nl)]
        exact s1 b o hb
      refine ⟨.ref l, rfl, _, rfl, l, _, _, _, rfl, rfl, .inl (.inl upd_same), at_of eat g2, .ref a, rfl, _, rfl, a, _, _, _, rfl, rfl, seqT_mono s2 sa, at_of eat (iV_get (List.getElem?_eq_getElem hgi)), _, _, rfl, rfl, s2, upd_same, some (.int ((g : Int) + (i : Int))), ?_⟩
      have e3 : eR g b y (i + 1) + pre ls (g + (i + 1)) = zR g b y (i + 1) (g + i) + pre ls (g + i) + ls[g + i] := by
        rw [e2, show g + (i + 1) = g + i + 1 from by omega, pre_succ hgi]
        unfold eR
        rw [if_neg (by omega), show g + (i + 1) - 1 = g + i from by omega]
        omega
      rw [e3]
      rfl
    · obtain ⟨s1, hl, y6, rfl⟩ := p
      refine ⟨.ref l, rfl, l, _, rfl, .inl ⟨.inl (.inl hl), fun t nt => ?_⟩⟩
      have e : stL ls (zR g b y (((iV ls).length : Int) - (g : Int)).toNat) = stL ls (pR g b y) := by
        rw [iV_len]
        apply stL_congr
        intro j hj
        unfold zR pR
        by_cases h2 : g ≤ j
        · rw [if_pos h2, if_pos (by omega)]
        · rw [if_neg h2, if_neg (by omega)]
      rw [e]
      exact q _ _ (s1.trans (same_new nt)) (tI_dp (.inl (.inl upd_same)))
def sp_pushed_left (K : PySem.W.Frag) : Sp := fun vs H Q _ => ∃ v u ls y g b pl, vs = [v, u, .int (g : Nat), .int (b + pre ls g)] ∧ Dp K H v (tI ls) ∧ Dp K H u (tI (stL ls y)) ∧ Rise ls.length pl y ∧ ls.length ≤ 8 ∧ g ≤ ls.length ∧ RD K H Q (tI (stL ls (pL g b y)))
theorem ok_pushed_left (T : Tx K mg) : FnOk P w K mg base CX0 1 T.f_pushed_left T.fd_pushed_left ["blocks", "stand", "gap", "place"] (sp_pushed_left K) := by
  refine T.F_pushed_left.ok sc_pushed_left (fun vs H Q E h => ?_) (fun cdv A outer s H vs Q E hr h => ?_)
  · obtain ⟨_, _, _, _, _, _, _, rfl, _⟩ := h
    rfl
  · obtain ⟨v, u, ls, y, g, b, pl, rfl, hv, hu, ri, n8, hg, q⟩ := h
    obtain ⟨a, rfl, sa⟩ := dp_tI hv
    obtain ⟨c, rfl, sc⟩ := dp_tI hu
    refine ⟨_, (pss_cons (ps_set (i := 4) sc_pushed_left.nd rfl (.inl rfl) (pe_callTy call_list_of (by rfl) T.n_list (by decide +kernel) (pa_cons (pv 1) pa_nil)))
      (pss_cons (ps_set (i := 5) sc_pushed_left.nd rfl (.inl rfl) (pv 3))
      (pss_cons (ps_for PassesOwn.never rfl (pi_revR (by rfl) T.n_reversed (prg_1 (by rfl) T.n_range (pv 2))) (pg_name (i := 6) sc_pushed_left.nd rfl (.inl rfl))
      (pss_cons (ps_asg (pe_callB (call_min2 rfl) (by rfl) T.n_min (by decide +kernel) (pa_cons (pe_ix ix_list (pv 4) (pv 6) (fun _ _ => rfl)) (pa_cons (pe_op op_sub (pv 5) (pe_ix ix_tup (pv 0) (pv 6) (fun _ _ => rfl))) pa_nil))) (pg_sub (pv 4) (pv 6) set_list))
      (pss_one (ps_set (i := 5) sc_pushed_left.nd rfl (.inl rfl) (pe_ix ix_list (pv 4) (pv 6) (fun _ _ => rfl))))))
      (pss_one (ps_ret (pe_callTy call_tuple_of (by rfl) T.n_tuple (by decide +kernel) (pa_cons (pv 4) pa_nil))))))), ?_⟩
    refine ⟨.ref c, rfl, c, _, rfl, .inr sc, fun l nl => ?_⟩
    refine ⟨_, rfl, ?_⟩
    refine ⟨_, rfl, _, rfl, by omega, by omega, by omega, by omega, ?_⟩
    have en : ((g : Int) - 0).toNat = g := by omega
    rw [en]
    refine for_rangeC (lo := 0 + ((g : Nat) : Int) - 1) (c := -1) (n := g) (fun i σ H' => Same H H' ∧ H' l = some (.lst (iV (stL ls (zL g b y i)))) ∧ ∃ y6, σ = [some (.ref a), some (.ref c), some (.int (g : Nat)), some (.int (b + pre ls g)), some (.ref l), some (.int (eL g b y i + pre ls (g - i))), y6])
      ⟨same_new nl, ?_, none, ?_⟩ (fun i σ H' hi p => ?_) (fun σ H' p => ?_)
    · rw [upd_same]
      congr 3
      apply stL_congr
      intro j hj
      unfold zL
      rw [if_neg (by omega)]
    · rfl
    · obtain ⟨s1, hl, y6, rfl⟩ := p
      have hgi : g - 1 - i < ls.length := by omega
      have eat : 0 + ((g : Nat) : Int) - 1 + (i : Nat) * (-1) = ((g - 1 - i : Nat) : Int) := by omega
      have g1 := iV_get (stL_get (y := zL g b y i) hgi)
      have epre : pre ls (g - i) = pre ls (g - 1 - i) + ls[g - 1 - i] := by
        have := pre_succ hgi
        rw [show g - 1 - i + 1 = g - i from by omega] at this
        exact this
      have e1 : (if eL g b y i + pre ls (g - i) - ls[g - 1 - i] < zL g b y i (g - 1 - i) + pre ls (g - 1 - i) then eL g b y i + pre ls (g - i) - ls[g - 1 - i] else zL g b y i (g - 1 - i) + pre ls (g - 1 - i)) = min (y (g - 1 - i)) b + pre ls (g - 1 - i) := by
        rw [← zL_step ri hg hi, epre]
        split <;> omega
      refine ⟨.ref l, rfl, _, rfl, l, _, _, _, rfl, rfl, .inl (.inl hl), at_of eat g1, _, rfl, .ref a, rfl, _, rfl, a, _, _, _, rfl, rfl, seqT_mono s1 sa, at_of eat (iV_get (List.getElem?_eq_getElem hgi)), _, _, rfl, rfl, _, _, rfl, ?_⟩
      rw [e1]
      refine ⟨.ref l, rfl, _, rfl, l, _, _, g - 1 - i, rfl, rfl, hl, ixN_at eat (by rw [iV_len, stL_len]; exact hgi), ?_⟩
      rw [iV_set, zL_next hg hi]
      have g2 := iV_get (stL_get (y := zL g b y (i + 1)) hgi)
      have e2 : zL g b y (i + 1) (g - 1 - i) = min (y (g - 1 - i)) b := by unfold zL; rw [if_pos (by omega)]
      have s2 : Same H (upd H' l (.lst (iV (stL ls (zL g b y (i + 1)))))) := fun b o hb => by
        rw [upd_ne (ne_of_none hb nl)]
        exact s1 b o hb
      refine ⟨.ref l, rfl, _, rfl, l, _, _, _, rfl, rfl, .inl (.inl upd_same), at_of eat g2, s2, upd_same, some (.int (0 + ((g : Nat) : Int) - 1 + (i : Nat) * (-1))), ?_⟩
      have e3 : eL g b y (i + 1) + pre ls (g - (i + 1)) = zL g b y (i + 1) (g - 1 - i) + pre ls (g - 1 - i) := by
        rw [e2, show g - (i + 1) = g - 1 - i from by omega]
        unfold eL
        rw [if_neg (by omega), show g - (i + 1) = g - 1 - i from by omega]
      rw [e3]
      rfl
    · obtain ⟨s1, hl, y6, rfl⟩ := p
      refine ⟨.ref l, rfl, l, _, rfl, .inl ⟨.inl (.inl hl), fun t nt => ?_⟩⟩
      have e : stL ls (zL g b y g) = stL ls (pL g b y) := by
        apply stL_congr
        intro j hj
        unfold zL pL
        by_cases h2 : j < g
        · rw [if_pos h2, if_pos (by omega)]
        · rw [if_neg h2, if_neg (by omega)]
      rw [e]
      exact q _ _ (s1.trans (same_new nt)) (tI_dp (.inl (.inl upd_same)))
/-! ### pushed, done, behind -/
def sp_pushed (K : PySem.W.Frag) : Sp := fun vs H Q _ => ∃ v u t room ls y p pl, vs = [v, u, t] ∧ Dp K H v (shD room ls) ∧ Dp K H u (tI (stL ls y)) ∧ Dp K H t (puD ls p) ∧ Rise ls.length pl y ∧ ls.length ≤ 8 ∧ PuOk ls.length pl p ∧ RD K H Q (tI (stL ls (doP y p)))
theorem ok_pushed (T : Tx K mg) : FnOk P w K mg base CX0 2 T.f_pushed T.fd_pushed ["shelf", "stand", "push"] (sp_pushed K) := by
  have G_pushed_right := ok_pushed_right (P := P) (w := w) (base := base) T
  have G_pushed_left := ok_pushed_left (P := P) (w := w) (base := base) T
  refine T.F_pushed.ok sc_pushed (fun vs H Q E h => ?_) (fun cdv A outer s H vs Q E hr h => ?_)
  · obtain ⟨_, _, _, _, _, _, _, _, rfl, _⟩ := h
    rfl
  · obtain ⟨v, u, t, room, ls, y, ⟨r, g, b⟩, pl, rfl, hv, hu, ht, ri, n8, pk, q⟩ := h
    obtain ⟨a, ba, rfl, sa, sb⟩ := dp_shelf hv
    obtain ⟨c, x1, x2, x3, rfl, sc, h1, h2, h3⟩ := dp_three ht
    cases dp_str h1
    cases dp_int h2
    cases dp_int h3
    refine ⟨_, (pss_cons (ps_asg (pv 2) (pg_tup rfl (pgs_cons (pg_name (i := 3) sc_pushed.nd rfl (.inl rfl)) (pgs_cons (pg_name (i := 4) sc_pushed.nd rfl (.inl rfl)) (pgs_cons (pg_name (i := 5) sc_pushed.nd rfl (.inl rfl)) pgs_nil)))))
      (pss_cons (ps_if (pt_cmpR op_eq (pv 3) pe_str (nomark _)) (pss_one (ps_ret (pe_call (G_pushed_right.mono (by first | decide | omega)) hr (by rfl) T.g_pushed_right T.F_pushed_right.kp T.b_pushed_right .nil pass0 (pa_cons (pe_ix ix_tup (pv 0) pe_int (fun _ _ => rfl)) (pa_cons (pv 1) (pa_cons (pv 4) (pa_cons (pv 5) pa_nil))))))) pss_nil)
      (pss_one (ps_ret (pe_call (G_pushed_left.mono (by first | decide | omega)) hr (by rfl) T.g_pushed_left T.F_pushed_left.kp T.b_pushed_left .nil pass0 (pa_cons (pe_ix ix_tup (pv 0) pe_int (fun _ _ => rfl)) (pa_cons (pv 1) (pa_cons (pv 4) (pa_cons (pv 5) pa_nil))))))))), ?_⟩
    refine ⟨.ref c, rfl, c, _, rfl, sc, rfl, _, _, rfl, _, _, rfl, _, [], rfl, rfl, ?_⟩
    cases r with
    | true =>
      have := pk.g0 rfl
      refine ⟨_, rfl, rfl, _, rfl, ?_⟩
      rw [decide_eq_true (show V.str (sideS true) = V.str "right" from rfl)]
      refine iteT ⟨.ref a, rfl, a, _, 1, _, rfl, rfl, sa, atI_nat (j := 1) rfl, u, rfl, _, rfl, _, rfl, _, u, ls, y, g, b, pl, rfl, tI_dp sb, hu, ri, n8, Nat.le_of_lt this, ?_⟩
      exact q
    | false =>
      have := pk.g1 rfl
      refine ⟨_, rfl, rfl, _, rfl, ?_⟩
      rw [decide_eq_false (show ¬ V.str (sideS false) = V.str "right" from by decide +kernel)]
      refine iteF ⟨.ref a, rfl, a, _, 1, _, rfl, rfl, sa, atI_nat (j := 1) rfl, u, rfl, _, rfl, _, rfl, _, u, ls, y, g, b, pl, rfl, tI_dp sb, hu, ri, n8, this.2, ?_⟩
      exact q
def sp_done (K : PySem.W.Frag) : Sp := fun vs H Q _ => ∃ v u t room ls y r pl, vs = [v, u, t] ∧ Dp K H v (shD room ls) ∧ Dp K H u (tI (stL ls y)) ∧ Dp K H t (roD ls r) ∧ Rise ls.length pl y ∧ ls.length ≤ 8 ∧ (∀ p ∈ r, PuOk ls.length pl p) ∧ RD K H Q (tI (stL ls (doR y r)))
def sp_behind (K : PySem.W.Frag) : Sp := fun vs H Q _ => ∃ v u t room ls y r, vs = [v, u, t] ∧ Dp K H v (shD room ls) ∧ ShOk room ls ∧ Dp K H u (tI (stL ls y)) ∧ Dp K H t (roD ls r) ∧ Rise ls.length (room - ls.sum) y ∧ r.length ≤ 200 ∧ (∀ p ∈ r, PuOk ls.length (room - ls.sum) p) ∧ RD K H Q (tI (stL ls (doR y r)))
theorem roD_depth (ls : List Int) (r : List Push) : (roD ls r).depth ≤ 2 := by
  unfold roD
  rw [PyData.depth]
  have : PyData.depthAll (r.map (puD ls)) ≤ 1 := depthAll_le _ fun d hd => by
    obtain ⟨p, _, rfl⟩ := List.mem_map.mp hd
    exact puD_depth ls p
  omega
end PS

namespace PS
open PySem PySem.Spec PyProof.Rows L2
variable {P : Program} {w : World} {K : PySem.W.Frag} {mg : Str → Option Value} {base : Heap}
/-! ### the outermost stands -/
def sp_packed (K : PySem.W.Frag) : Sp := fun vs H Q _ => ∃ v room ls c, vs = [v, .int c] ∧ Dp K H v (shD room ls) ∧ ls.length ≤ 8 ∧ RD K H Q (tI (stL ls (fun _ => c)))
theorem ok_packed (T : Tx K mg) : FnOk P w K mg base CX0 2 T.f_packed T.fd_packed ["shelf", "start"] (sp_packed K) := by
  have G_gap_length := ok_gap_length (P := P) (w := w) (base := base) T
  refine T.F_packed.ok sc_packed (fun vs H Q E h => ?_) (fun cdv A outer s H vs Q E hr h => ?_)
  · obtain ⟨v, _, _, c, rfl, _⟩ := h
    rfl
  · obtain ⟨v, room, ls, c, rfl, hv, n8, q⟩ := h
    obtain ⟨a, b, rfl, sa, sb⟩ := dp_shelf hv
    refine ⟨_, (pss_one (ps_ret (pe_callTy call_tuple_of (by rfl) T.n_tuple (by decide +kernel) (pa_cons (pe_lc (own := [("at", 2)]) (g := gName 2) (tt := tYes) rfl sc_packed.nd (pi_range1 (by rfl) T.n_range (pa_cons (pe_callB call_len_seq (by rfl) T.n_len (by decide +kernel) (pa_cons (pe_ix ix_tup (pv 0) pe_int (fun _ _ => rfl)) pa_nil)) pa_nil)) (blkOk_by (own := [("at", 2)]) (N := ["shelf", "start", "at"]) (sc := defScope s_packed) (by decide +kernel)) (fun _ _ _ _ _ => (pg_name (i := 2) sc_packed.nd rfl (.inl rfl))) (fun _ _ _ _ _ => pts_nil) (fun _ _ _ _ _ => (pe_op op_add (pv 1) (pe_call (G_gap_length.mono (by first | decide | omega)) hr (by rfl) T.g_gap_length T.F_gap_length.kp T.b_gap_length .nil pass0 (pa_cons (pv 0) (pa_cons (pv 2) pa_nil)))))) pa_nil)))), ?_⟩
    refine ⟨.ref a, rfl, a, _, 1, _, rfl, rfl, sa, atI_nat (j := 1) rfl, b, _, rfl, .inr sb, _, rfl, by omega, by rw [iV_len]; omega, fun D nD => ?_⟩
    have en : (((iV ls).length : Nat) : Int).toNat = ls.length := by rw [iV_len]; omega
    rw [en]
    refine lc_range (lo := 0) (n := ls.length) (fun i H' => Same H H' ∧ H' D = some (.lst (iV ((stL ls (fun _ => c)).take i)))) ⟨same_new nD, upd_same⟩ (fun i H' hi p => ?_) (fun H' p => ?_)
    · refine ⟨rfl, _, rfl, .ref a, rfl, _, rfl, .ref a, room, ls, i, by rw [Int.zero_add]; rfl, Dpm p.1 hv, fun H3 s3 => ?_⟩
      refine ⟨_, _, rfl, rfl, _, s3 _ _ p.2, ?_, fun b o hb => ?_, ?_⟩
      · rw [List.length_map, List.length_take]
        exact small1000 (by omega)
      · rw [upd_ne (ne_of_none hb nD)]
        exact s3 _ _ (p.1 b o hb)
      · rw [upd_same, List.take_add_one, stL_get hi]
        simp
    · obtain ⟨s1, hD⟩ := p
      rw [List.take_of_length_le (by rw [stL_len]; exact Nat.le_refl _)] at hD
      refine ⟨D, _, rfl, .inl ⟨.inl (.inl hD), fun t nt => ?_⟩⟩
      exact q _ _ (s1.trans (same_new nt)) (tI_dp (.inl (.inl upd_same)))
def sp_leftmost (K : PySem.W.Frag) : Sp := fun vs H Q _ => ∃ v room ls, vs = [v] ∧ Dp K H v (shD room ls) ∧ ls.length ≤ 8 ∧ RD K H Q (tI (stL ls (fun _ => 0)))
theorem ok_leftmost (T : Tx K mg) : FnOk P w K mg base CX0 3 T.f_leftmost T.fd_leftmost ["shelf"] (sp_leftmost K) := by
  have G_packed := ok_packed (P := P) (w := w) (base := base) T
  refine T.F_leftmost.ok sc_leftmost (fun vs H Q E h => ?_) (fun cdv A outer s H vs Q E hr h => ?_)
  · obtain ⟨v, _, _, rfl, _⟩ := h
    rfl
  · obtain ⟨v, room, ls, rfl, hv, n8, q⟩ := h
    refine ⟨_, (pss_one (ps_ret (pe_call (G_packed.mono (by first | decide | omega)) hr (by rfl) T.g_packed T.F_packed.kp T.b_packed .nil pass0 (pa_cons (pv 0) (pa_cons pe_int pa_nil))))), ?_⟩
    exact ⟨v, rfl, v, room, ls, 0, rfl, hv, n8, q⟩
def sp_rightmost (K : PySem.W.Frag) : Sp := fun vs H Q _ => ∃ v room ls, vs = [v] ∧ Dp K H v (shD room ls) ∧ ls.length ≤ 8 ∧ RD K H Q (tI (stL ls (fun _ => room - ls.sum)))
theorem ok_rightmost (T : Tx K mg) : FnOk P w K mg base CX0 3 T.f_rightmost T.fd_rightmost ["shelf"] (sp_rightmost K) := by
  have G_packed := ok_packed (P := P) (w := w) (base := base) T
  have G_play_of := ok_play_of (P := P) (w := w) (base := base) T
  refine T.F_rightmost.ok sc_rightmost (fun vs H Q E h => ?_) (fun cdv A outer s H vs Q E hr h => ?_)
  · obtain ⟨v, _, _, rfl, _⟩ := h
    rfl
  · obtain ⟨v, room, ls, rfl, hv, n8, q⟩ := h
    refine ⟨_, (pss_one (ps_ret (pe_call (G_packed.mono (by first | decide | omega)) hr (by rfl) T.g_packed T.F_packed.kp T.b_packed .nil pass0 (pa_cons (pv 0) (pa_cons (pe_call (G_play_of.mono (by first | decide | omega)) hr (by rfl) T.g_play_of T.F_play_of.kp T.b_play_of .nil pass0 (pa_cons (pv 0) pa_nil)) pa_nil))))), ?_⟩
    exact ⟨v, rfl, v, rfl, v, room, ls, rfl, hv, v, room, ls, _, rfl, hv, n8, q⟩
def sp_doing_of (K : PySem.W.Frag) : Sp := fun vs H Q _ => ∃ v t room ls r, vs = [v, t] ∧ Dp K H v (shD room ls) ∧ ShOk room ls ∧ Dp K H t (roD ls r) ∧ r.length ≤ 200 ∧ (∀ p ∈ r, PuOk ls.length (room - ls.sum) p) ∧ RD K H Q (dgD ls (loR r) (hiR (room - ls.sum) r))
def sp_is_doing (K : PySem.W.Frag) : Sp := fun vs H Q _ => ∃ v u room ls d, vs = [v, u] ∧ Dp K H v (shD room ls) ∧ ShOk room ls ∧ Dp K H u d ∧ RB H Q (isDoing room ls d)
theorem zip_all (ns ms : List Int) (i : Nat) (n m : Int) (e1 : ns[i]? = some n) (e2 : ms[i]? = some m) : (List.zipWith (fun a b => decide (a ≤ b)) ns ms)[i]? = some (decide (n ≤ m)) := by
  rw [List.getElem?_zipWith, e1, e2]
def sp_need_doing (K : PySem.W.Frag) : Sp := fun vs H Q _ => ∃ v u room ls d, vs = [v, u] ∧ Dp K H v (shD room ls) ∧ ShOk room ls ∧ Dp K H u d ∧ isDoing room ls d = true ∧ ∀ H', Same H H' → Q .non H'
end PS

namespace PS
open PySem PySem.Spec PyProof.Rows L2
variable {P : Program} {w : World} {K : PySem.W.Frag} {mg : Str → Option Value} {base : Heap}
/-! ### places_of -/
abbrev plL (n : Nat) (y : Nat → Int) : List Int := (List.range n).map y
theorem plL_len (n : Nat) (y : Nat → Int) : (plL n y).length = n := by simp [plL]
theorem plL_get {n j : Nat} {y : Nat → Int} (h : j < n) : (plL n y)[j]? = some (y j) := by simp [plL, h]
theorem plL_take {n j : Nat} {y : Nat → Int} (h : j < n) : (plL n y).take (j + 1) = (plL n y).take j ++ [y j] := by
  rw [List.take_add_one, plL_get h]
  rfl
def sp_places_of (K : PySem.W.Frag) : Sp := fun vs H Q _ => ∃ v u room ls y, vs = [v, u] ∧ Dp K H v (shD room ls) ∧ Dp K H u (tI (stL ls y)) ∧ ls.length ≤ 8 ∧ ∀ p H', Same H H' → H p = none → H' p = some (.lst (iV (plL ls.length y))) → Q (.ref p) H'
theorem ok_places_of (T : Tx K mg) : FnOk P w K mg base CX0 2 T.f_places_of T.fd_places_of ["shelf", "stand"] (sp_places_of K) := by
  have G_gap_length := ok_gap_length (P := P) (w := w) (base := base) T
  refine T.F_places_of.ok sc_places_of (fun vs H Q E h => ?_) (fun cdv A outer s H vs Q E hr h => ?_)
  · obtain ⟨_, _, _, _, _, rfl, _⟩ := h
    rfl
  · obtain ⟨v, u, room, ls, y, rfl, hv, hu, n8, q⟩ := h
    obtain ⟨d, rfl, sd⟩ := dp_tI hu
    refine ⟨_, (pss_one (ps_ret (pe_lc (own := [("at", 2), ("left", 3)]) (g := gTup K 2 (gCons (gName 2) (gCons (gName 3) gNil))) (tt := tYes) rfl sc_places_of.nd (pi_enum1 (by rfl) T.n_enumerate (pa_cons (pv 1) pa_nil)) (blkOk_by (own := [("at", 2), ("left", 3)]) (N := ["shelf", "stand", "at", "left"]) (sc := defScope s_places_of) (by decide +kernel)) (fun _ _ _ _ _ => (pg_tup rfl (pgs_cons (pg_name (i := 2) sc_places_of.nd rfl (.inl rfl)) (pgs_cons (pg_name (i := 3) sc_places_of.nd rfl (.inl rfl)) pgs_nil)))) (fun _ _ _ _ _ => pts_nil) (fun _ _ _ _ _ => (pe_op op_sub (pv 3) (pe_call (G_gap_length.mono (by first | decide | omega)) hr (by rfl) T.g_gap_length T.F_gap_length.kp T.b_gap_length .nil pass0 (pa_cons (pv 0) (pa_cons (pv 2) pa_nil)))))))), ?_⟩
    refine ⟨_, rfl, false, d, _, rfl, sd, fun D nD => ?_⟩
    refine lc_it (walk_1 (n := ls.length) (xs := iV (stL ls y)) (by rw [iV_len, stL_len])) (fun i H' => Same H H' ∧ H' D = some (.lst (iV ((plL ls.length y).take i)))) ⟨same_new nD, upd_same⟩ (fun i H' _ p => seqT_mono p.1 sd) (fun i x H' H2 hi p yy => ?_) (fun H' p => ?_)
    · obtain ⟨Tt, x, rfl, nT, rfl, hx⟩ := yy
      rw [iV_get (stL_get hi)] at hx
      cases Option.some.inj hx
      have t1 := same_new (o := .tup [.int (i : Nat), .int (y i + pre ls i)]) nT
      have s1 := p.1.trans t1
      have hD1 := t1 _ _ p.2
      refine ⟨Tt, _, rfl, .inl (.inl upd_same), rfl, _, _, rfl, _, [], rfl, rfl, rfl, _, rfl, v, rfl, _, rfl, v, room, ls, i, rfl, Dpm s1 hv, fun H3 s3 => ?_⟩
      refine ⟨_, _, rfl, rfl, _, s3 _ _ hD1, ?_, fun b o hb => ?_, ?_⟩
      · rw [List.length_map, List.length_take]
        exact small1000 (by omega)
      · rw [upd_ne (ne_of_none hb nD)]
        exact s3 _ _ (s1 b o hb)
      · rw [upd_same, plL_take hi]
        dsimp only
        rw [show y i + pre ls i - pre ls i = y i from by omega]
        simp
    · obtain ⟨s1, hD⟩ := p
      rw [List.take_of_length_le (by rw [plL_len]; exact Nat.le_refl _)] at hD
      exact q D H' s1 nD hD
end PS

namespace PS
open PySem PySem.Spec PyProof.Rows L2
variable {P : Program} {w : World} {K : PySem.W.Frag} {mg : Str → Option Value} {base : Heap}
/-! ### bands -/
abbrev bandL (v1 v2 v3 v4 v5 : V) : List (Str × V) := [("first", v1), ("beyond", v2), ("place", v3), ("up", v4), ("down", v5)]
def bandF (y w : Nat → Int) (r : Nat × Nat) : List (Str × V) := bandL (.int r.1) (.int r.2) (.int (w r.1)) (.bl (fl y w r).1) (.bl (fl y w r).2)
theorem band_put (v1 v2 v3 v4 v5 : V) : putF "down" v5 (putF "up" v4 (putF "place" v3 (putF "beyond" v2 (putF "first" v1 [])))) = bandL v1 v2 v3 v4 v5 := rfl
theorem band_first (y w : Nat → Int) (r : Nat × Nat) : (bandF y w r).lookup ("first" : Str) = some (.int r.1) := rfl
theorem band_beyond (y w : Nat → Int) (r : Nat × Nat) : (bandF y w r).lookup ("beyond" : Str) = some (.int r.2) := rfl
theorem band_place (y w : Nat → Int) (r : Nat × Nat) : (bandF y w r).lookup ("place" : Str) = some (.int (w r.1)) := rfl
theorem band_up (y w : Nat → Int) (r : Nat × Nat) : (bandF y w r).lookup ("up" : Str) = some (.bl (fl y w r).1) := rfl
theorem band_down (y w : Nat → Int) (r : Nat × Nat) : (bandF y w r).lookup ("down" : Str) = some (.bl (fl y w r).2) := rfl
def sp_Band_init (C : Addr) : Sp := fun vs H Q _ => ∃ (x dx : Addr) (v1 v2 v3 v4 v5 : V), vs = [.ref x, v1, v2, v3, v4, v5] ∧ H x = some (.ins C dx []) ∧ ∀ H', H' x = some (.ins C dx (bandL v1 v2 v3 v4 v5)) → (∀ b o, H b = some o → b ≠ x → H' b = some o) → Q .non H'
theorem ok_Band_init (T : Tx K mg) : FnOk P w K mg base CX0 1 T.f_Band_init T.fd_Band_init ["self", "first", "beyond", "place", "up", "down"] (sp_Band_init T.C_Band) := by
  refine T.F_Band_init.ok sc_Band_init (fun vs H Q E h => ?_) (fun cdv A outer s H vs Q E hr h => ?_)
  · obtain ⟨_, _, _, _, _, _, _, rfl, _⟩ := h
    rfl
  · obtain ⟨x, dx, v1, v2, v3, v4, v5, rfl, hx, q⟩ := h
    refine ⟨_, (pss_cons (ps_fld (pv 0) (pv 1) rfl)
      (pss_cons (ps_fld (pv 0) (pv 2) rfl)
      (pss_cons (ps_fld (pv 0) (pv 3) rfl)
      (pss_cons (ps_fld (pv 0) (pv 4) rfl)
      (pss_one (ps_fld (pv 0) (pv 5) rfl)))))), ?_⟩
    refine ⟨v1, rfl, _, rfl, x, T.C_Band, dx, _, rfl, hx, T.cl_Band, T.na_Band_first, (by show 0 < 1000; decide), ?_⟩
    refine ⟨v2, rfl, _, rfl, x, T.C_Band, dx, _, rfl, upd_same, T.cl_Band, T.na_Band_beyond, (by show 1 < 1000; decide), ?_⟩
    refine ⟨v3, rfl, _, rfl, x, T.C_Band, dx, _, rfl, upd_same, T.cl_Band, T.na_Band_place, (by show 2 < 1000; decide), ?_⟩
    refine ⟨v4, rfl, _, rfl, x, T.C_Band, dx, _, rfl, upd_same, T.cl_Band, T.na_Band_up, (by show 3 < 1000; decide), ?_⟩
    refine ⟨v5, rfl, _, rfl, x, T.C_Band, dx, _, rfl, upd_same, T.cl_Band, T.na_Band_down, (by show 4 < 1000; decide), ?_⟩
    exact q _ upd_same fun b o e hb => by rw [upd_ne hb, upd_ne hb, upd_ne hb, upd_ne hb, upd_ne hb]; exact e
/-- a band in the heap -/
def BandAt (C : Addr) (H : Hp) (y w : Nat → Int) (v : V) (r : Nat × Nat) : Prop := ∃ a dx, v = .ref a ∧ H a = some (.ins C dx (bandF y w r))
inductive Bands (C : Addr) (H : Hp) (y w : Nat → Int) : List V → List (Nat × Nat) → Prop
  | nil : Bands C H y w [] []
  | cons {v : V} {vs : List V} {r : Nat × Nat} {rs : List (Nat × Nat)} : BandAt C H y w v r → Bands C H y w vs rs → Bands C H y w (v :: vs) (r :: rs)
theorem Bands.len {C : Addr} {H : Hp} {y w : Nat → Int} : ∀ {vs : List V} {rs : List (Nat × Nat)}, Bands C H y w vs rs → vs.length = rs.length
  | _, _, .nil => rfl
  | _, _, .cons _ h => by simp [h.len]
theorem Bands.mono {C : Addr} {H H' : Hp} {y w : Nat → Int} (k : ∀ a dx fs, H a = some (.ins C dx fs) → H' a = some (.ins C dx fs)) : ∀ {vs : List V} {rs : List (Nat × Nat)}, Bands C H y w vs rs → Bands C H' y w vs rs
  | _, _, .nil => .nil
  | _, _, .cons ⟨a, dx, e, h⟩ hs => .cons ⟨a, dx, e, k _ _ _ h⟩ (hs.mono k)
theorem Bands.same {C : Addr} {H H' : Hp} {y w : Nat → Int} {vs : List V} {rs : List (Nat × Nat)} (h : Bands C H y w vs rs) (s : Same H H') : Bands C H' y w vs rs := h.mono fun a dx fs e => s _ _ e
theorem Bands.app {C : Addr} {H : Hp} {y w : Nat → Int} : ∀ {vs us : List V} {rs qs : List (Nat × Nat)}, Bands C H y w vs rs → Bands C H y w us qs → Bands C H y w (vs ++ us) (rs ++ qs)
  | _, _, _, _, .nil, h => h
  | _, _, _, _, .cons a h, k => .cons a (h.app k)
theorem Bands.take {C : Addr} {H : Hp} {y w : Nat → Int} : ∀ {vs : List V} {rs : List (Nat × Nat)} (n : Nat), Bands C H y w vs rs → Bands C H y w (vs.take n) (rs.take n)
  | vs, rs, 0, h => by simp; exact .nil
  | _, _, n + 1, .nil => .nil
  | _, _, n + 1, .cons a h => .cons a (h.take n)
theorem Bands.drop {C : Addr} {H : Hp} {y w : Nat → Int} : ∀ {vs : List V} {rs : List (Nat × Nat)} (n : Nat), Bands C H y w vs rs → Bands C H y w (vs.drop n) (rs.drop n)
  | vs, rs, 0, h => by simpa using h
  | _, _, n + 1, .nil => .nil
  | _, _, n + 1, .cons a h => h.drop n
theorem Bands.get {C : Addr} {H : Hp} {y w : Nat → Int} : ∀ {vs : List V} {rs : List (Nat × Nat)} {i : Nat} {v : V}, Bands C H y w vs rs → vs[i]? = some v → ∃ r, rs[i]? = some r ∧ BandAt C H y w v r
  | _, _, i, v, .nil, e => by simp at e
  | _, _, 0, v, .cons a h, e => by simp at e; subst e; exact ⟨_, rfl, a⟩
  | _, _, i + 1, v, .cons a h, e => by
    obtain ⟨r, h1, h2⟩ := h.get (i := i) (v := v) (by simpa using e)
    exact ⟨r, by simpa using h1, h2⟩
def sp_band_from (K : PySem.W.Frag) (C : Addr) : Sp := fun vs H Q _ => ∃ (a b : Addr) (n : Nat) (y w : Nat → Int) (f : Nat), vs = [.ref a, .ref b, .int (f : Int)] ∧ SqL K H a (iV (plL n y)) ∧ SqL K H b (iV (plL n w)) ∧ Up n w ∧ f < n ∧ (f = 0 ∨ w (f - 1) < w f) ∧ n ≤ 8 ∧
  ∀ x dx H', Same H H' → H' x = some (.ins C dx (bandF y w (f, f + (plL n w).count (w f)))) → Q (.ref x) H'
theorem ok_band_from (T : Tx K mg) : FnOk P w K mg base CX0 3 T.f_band_from T.fd_band_from ["now", "wished", "first"] (sp_band_from K T.C_Band) := by
  have G_Band_init := ok_Band_init (P := P) (w := w) (base := base) T
  refine T.F_band_from.ok sc_band_from (fun vs H Q E h => ?_) (fun cdv A outer s H vs Q E hr h => ?_)
  · obtain ⟨_, _, _, _, _, _, rfl, _⟩ := h
    rfl
  · obtain ⟨a, b, n, y, w, f, rfl, sa, sb, up, hf, hb, n8, q⟩ := h
    refine ⟨_, (pss_cons (ps_set (i := 3) sc_band_from.nd rfl (.inl rfl) (pe_ix ix_list (pv 1) (pv 2) (fun _ _ => rfl)))
      (pss_cons (ps_set (i := 4) sc_band_from.nd rfl (.inl rfl) (pe_op op_add (pv 2) (pe_bm PySem.F.plainAttrs_list PySem.F.slot_list_count PySem.F.type_list_count mt_lcount (pv 1) (pa_cons (pv 3) pa_nil))))
      (pss_one (ps_ret (pe_make T.mk_Band (G_Band_init.mono (by first | decide | omega)) hr (by rfl) T.g_Band T.b_Band_init .nil pass0 (pa_cons (pv 2) (pa_cons (pv 4) (pa_cons (pv 3) (pa_cons (pe_cmpR op_lt (pe_ix ix_list (pv 0) (pv 2) (fun _ _ => rfl)) (pv 3) (nomark _)) (pa_cons (pe_cmpR op_gt (pe_ix ix_list (pv 0) (pe_op op_sub (pv 4) pe_int) (fun _ _ => rfl)) (pv 3) (nomark _)) pa_nil)))))))))), ?_⟩
    obtain ⟨c1, c2, c3, c4⟩ := run_count up hf hb
    generalize hc : (plL n w).count (w f) = c at *
    refine ⟨.ref b, rfl, _, rfl, b, _, _, _, rfl, rfl, sb, at_of (j := f) rfl (iV_get (plL_get hf)), ?_⟩
    refine ⟨_, rfl, .ref b, rfl, .inl ⟨rfl, _, sb⟩, _, rfl, b, _, _, rfl, rfl, sb, ?_⟩
    rw [hc]
    refine ⟨_, _, rfl, rfl, ?_⟩
    have e1 : (f : Int) + (c : Int) = ((f + c : Nat) : Int) := by omega
    dsimp only
    rw [e1]
    refine ⟨_, rfl, _, rfl, _, rfl, .ref a, rfl, _, rfl, a, _, _, _, rfl, rfl, sa, at_of (j := f) rfl (iV_get (plL_get hf)), _, rfl, _, _, rfl, rfl, .ref a, rfl, _, rfl, _, _, rfl, rfl, a, _, _, _, rfl, rfl, sa, at_of (j := f + c - 1) (by omega) (iV_get (plL_get (by omega))), _, rfl, _, _, rfl, rfl, ?_⟩
    intro x dx nx ndx nex
    refine ⟨x, dx, _, _, _, _, _, rfl, upd_same, fun H1 h1 k1 => ⟨rfl, ?_⟩⟩
    exact q x dx H1 (Same.made nx ndx k1) h1
def sp_bands_of (K : PySem.W.Frag) (C : Addr) : Sp := fun vs H Q _ => ∃ v u t room ls y w pl, vs = [v, u, t] ∧ Dp K H v (shD room ls) ∧ Dp K H u (tI (stL ls y)) ∧ Dp K H t (tI (stL ls w)) ∧ Rise ls.length pl w ∧ ls.length ≤ 8 ∧
  ∀ p H' us rs, Same H H' → H p = none → H' p = some (.lst us) → RunsTo w ls.length 0 ls.length rs → Bands C H' y w us rs → Q (.ref p) H'
theorem ok_bands_of (T : Tx K mg) : FnOk P w K mg base CX0 4 T.f_bands_of T.fd_bands_of ["shelf", "stand", "wish"] (sp_bands_of K T.C_Band) := by
  have G_places_of := ok_places_of (P := P) (w := w) (base := base) T
  have G_band_from := ok_band_from (P := P) (w := w) (base := base) T
  refine T.F_bands_of.ok sc_bands_of (fun vs H Q E h => ?_) (fun cdv A outer s H vs Q E hr h => ?_)
  · obtain ⟨_, _, _, _, _, _, _, _, rfl, _⟩ := h
    rfl
  · obtain ⟨v, u, t, room, ls, y, w, pl, rfl, hv, hu, ht, ri, n8, q⟩ := h
    refine ⟨_, (pss_cons (ps_set (i := 3) sc_bands_of.nd rfl (.inl rfl) (pe_call (G_places_of.mono (by first | decide | omega)) hr (by rfl) T.g_places_of T.F_places_of.kp T.b_places_of .nil pass0 (pa_cons (pv 0) (pa_cons (pv 1) pa_nil))))
      (pss_cons (ps_set (i := 4) sc_bands_of.nd rfl (.inl rfl) (pe_call (G_places_of.mono (by first | decide | omega)) hr (by rfl) T.g_places_of T.F_places_of.kp T.b_places_of .nil pass0 (pa_cons (pv 0) (pa_cons (pv 2) pa_nil))))
      (pss_cons (ps_set (i := 5) sc_bands_of.nd rfl (.inl rfl) (pe_lst pa_nil))
      (pss_cons (ps_set (i := 6) sc_bands_of.nd rfl (.inl rfl) pe_int)
      (pss_cons (ps_while PassesOwn.never (pt_cmpR op_lt (pv 6) (pe_callB call_len_seq (by rfl) T.n_len (by decide +kernel) (pa_cons (pv 4) pa_nil)) (nomark _))
      (pss_cons (ps_set (i := 7) sc_bands_of.nd rfl (.inl rfl) (pe_call (G_band_from.mono (by first | decide | omega)) hr (by rfl) T.g_band_from T.F_band_from.kp T.b_band_from .nil pass0 (pa_cons (pv 3) (pa_cons (pv 4) (pa_cons (pv 6) pa_nil)))))
      (pss_cons (ps_expr (pe_bm PySem.F.plainAttrs_list PySem.F.slot_list_append PySem.F.type_list_append mt_append (pv 5) (pa_cons (pv 7) pa_nil)))
      (pss_one (ps_set (i := 6) sc_bands_of.nd rfl (.inl rfl) (pe_fld (pv 7) rfl))))))
      (pss_one (ps_ret (pv 5)))))))), ?_⟩
    refine ⟨v, rfl, u, rfl, v, u, room, ls, y, rfl, hv, hu, n8, fun a H1 s1 na ha => ?_⟩
    refine ⟨v, rfl, t, rfl, v, t, room, ls, w, rfl, Dpm s1 hv, Dpm s1 ht, n8, fun b H2 s2 nb hb => ?_⟩
    have ha := s2 _ _ ha
    refine ⟨Nat.zero_le _, fun l nl => ?_⟩
    have t3 := same_new (o := .lst []) nl
    have nlH : H l = none := (s1.trans s2).free nl
    refine ⟨fun m σ H' => ∃ k rs us y7, m = ls.length - k ∧ k ≤ ls.length ∧ Same H2 H' ∧ RunsTo w ls.length 0 k rs ∧ σ = [some v, some u, some t, some (.ref a), some (.ref b), some (.ref l), some (.int (k : Nat)), y7] ∧ H' l = some (.lst us) ∧ Bands T.C_Band H' y w us rs,
      ⟨_, 0, [], [], none, rfl, Nat.zero_le _, t3, .nil, rfl, upd_same, .nil⟩, ?_⟩
    rintro m σ H' ⟨k, rs, us, y7, rfl, hk, s3, runs, rfl, hl, bs⟩
    have ha3 := s3 _ _ ha
    have hb3 := s3 _ _ hb
    refine ⟨_, rfl, .ref b, rfl, b, _, rfl, .inl (.inl (.inl hb3)), _, _, rfl, rfl, _, rfl, ?_⟩
    rw [iV_len, plL_len]
    by_cases c : k < ls.length
    · rw [decide_eq_true (show (k : Int) < ((ls.length : Nat) : Int) by omega)]
      refine iteT ⟨fun σ' H4 => ∃ k' rs us y7, k < k' ∧ k' ≤ ls.length ∧ Same H2 H4 ∧ RunsTo w ls.length 0 k' rs ∧ σ' = [some v, some u, some t, some (.ref a), some (.ref b), some (.ref l), some (.int (k' : Nat)), y7] ∧ H4 l = some (.lst us) ∧ Bands T.C_Band H4 y w us rs, ?_, ?_⟩
      · rintro σ' H4 ⟨k', rs', us', y7', h1, h2, h3, h4, rfl, h5, h6⟩
        exact ⟨ls.length - k', by omega, k', rs', us', y7', rfl, h2, h3, h4, rfl, h5, h6⟩
      · have up := ri.mono
        have hfront : k = 0 ∨ w (k - 1) < w k := by
          by_cases e : rs = []
          · subst e
            cases runs
            exact .inl rfl
          · exact .inr (runs.front e c)
        obtain ⟨c1, c2, c3, c4⟩ := run_count up c hfront
        refine ⟨_, rfl, _, rfl, _, rfl, a, b, ls.length, y, w, k, rfl, .inl (.inl ha3), .inl (.inl hb3), up, c, hfront, n8, fun x dx H5 s5 hx => ?_⟩
        have hl5 := s5 _ _ hl
        have hul : us.length ≤ 8 := by
          have h1 := bs.len
          have h2 := runs.len
          omega
        refine ⟨.ref l, rfl, .inl ⟨rfl, _, .inl (.inl hl5)⟩, _, rfl, l, _, _, rfl, rfl, hl5, small1000 (by omega), ?_⟩
        have nxl : x ≠ l := ne_of hx hl5 (by intro z; cases z)
        have hx6 : upd H5 l (.lst (us ++ [.ref x])) x = some (.ins T.C_Band dx (bandF y w (k, k + (plL ls.length w).count (w k)))) := by
          rw [upd_ne nxl]
          exact hx
        refine ⟨_, rfl, x, T.C_Band, dx, _, _, rfl, hx6, T.cl_Band, T.na_Band_beyond, band_beyond _ _ _, ?_⟩
        refine ⟨k + (plL ls.length w).count (w k), rs ++ [(k, k + (plL ls.length w).count (w k))], us ++ [.ref x], _, by show k < k + ((List.range ls.length).map w).count (w k); omega, c2, fun b' o hb' => ?_, ?_, rfl, upd_same, ?_⟩
        · rw [upd_ne (ne_of_none hb' nl)]
          exact s5 _ _ (s3 _ _ hb')
        · exact runs.app (.cons (by show k < k + ((List.range ls.length).map w).count (w k); omega) c2 c3 c4 .nil)
        · refine Bands.app ((bs.same s5).mono fun a' dx' fs e => ?_) (.cons ⟨x, dx, rfl, hx6⟩ .nil)
          rw [upd_ne (ne_of e hl5 (by intro z; cases z))]
          exact e
    · rw [decide_eq_false (show ¬ (k : Int) < ((ls.length : Nat) : Int) by omega)]
      have ek : k = ls.length := by omega
      subst ek
      exact iteF ⟨.ref l, rfl, q l H' us rs ((s1.trans s2).trans s3) nlH hl runs bs⟩
/-! ### rows -/
abbrev RRow (K : PySem.W.Frag) (H : Hp) (Q : VK) (ls : List Int) (r : List Push) : Prop := ∀ p H' us, Same H H' → H p = none → H' p = some (.lst us) → DpAll K (Off p H') us (r.map (puD ls)) → Q (.ref p) H'
def sp_shove (K : PySem.W.Frag) (rt : Bool) : Sp := fun vs H Q _ => ∃ v room ls g b, vs = [v, .int (g : Nat), .int b] ∧ Dp K H v (shD room ls) ∧ RD K H Q (puD ls (rt, g, b))
theorem ok_raised (T : Tx K mg) : FnOk P w K mg base CX0 2 T.f_raised T.fd_raised ["shelf", "gap", "place"] (sp_shove K true) := by
  have G_gap_length := ok_gap_length (P := P) (w := w) (base := base) T
  refine T.F_raised.ok sc_raised (fun vs H Q E h => ?_) (fun cdv A outer s H vs Q E hr h => ?_)
  · obtain ⟨_, _, _, _, _, rfl, _⟩ := h
    rfl
  · obtain ⟨v, room, ls, g, b, rfl, hv, q⟩ := h
    refine ⟨_, (pss_one (ps_ret (pe_tup (pa_cons pe_str (pa_cons (pv 1) (pa_cons (pe_op op_add (pe_call (G_gap_length.mono (by first | decide | omega)) hr (by rfl) T.g_gap_length T.F_gap_length.kp T.b_gap_length .nil pass0 (pa_cons (pv 0) (pa_cons (pv 1) pa_nil))) (pv 2)) pa_nil)))))), ?_⟩
    refine ⟨_, rfl, v, rfl, _, rfl, v, room, ls, g, rfl, hv, fun H1 s1 => ?_⟩
    refine ⟨_, rfl, _, _, rfl, rfl, by show 3 ≤ sizeLine; decide, fun t nt => ?_⟩
    refine q _ _ (s1.trans (same_new nt)) (.tup (.inl (.inl upd_same)) (.cons (.str _) (.cons (.int _) (.cons ?_ .nil))))
    show Dp K _ (.int (pre ls g + b)) (.int (b + pre ls g))
    rw [Int.add_comm]
    exact .int _
theorem ok_lowered (T : Tx K mg) : FnOk P w K mg base CX0 2 T.f_lowered T.fd_lowered ["shelf", "gap", "place"] (sp_shove K false) := by
  have G_gap_length := ok_gap_length (P := P) (w := w) (base := base) T
  refine T.F_lowered.ok sc_lowered (fun vs H Q E h => ?_) (fun cdv A outer s H vs Q E hr h => ?_)
  · obtain ⟨_, _, _, _, _, rfl, _⟩ := h
    rfl
  · obtain ⟨v, room, ls, g, b, rfl, hv, q⟩ := h
    refine ⟨_, (pss_one (ps_ret (pe_tup (pa_cons pe_str (pa_cons (pv 1) (pa_cons (pe_op op_add (pe_call (G_gap_length.mono (by first | decide | omega)) hr (by rfl) T.g_gap_length T.F_gap_length.kp T.b_gap_length .nil pass0 (pa_cons (pv 0) (pa_cons (pv 1) pa_nil))) (pv 2)) pa_nil)))))), ?_⟩
    refine ⟨_, rfl, v, rfl, _, rfl, v, room, ls, g, rfl, hv, fun H1 s1 => ?_⟩
    refine ⟨_, rfl, _, _, rfl, rfl, by show 3 ≤ sizeLine; decide, fun t nt => ?_⟩
    refine q _ _ (s1.trans (same_new nt)) (.tup (.inl (.inl upd_same)) (.cons (.str _) (.cons (.int _) (.cons ?_ .nil))))
    show Dp K _ (.int (pre ls g + b)) (.int (b + pre ls g))
    rw [Int.add_comm]
    exact .int _
/-- a row that grows -/
theorem app_row {H H2 : Hp} {l : Addr} {us : List V} {ds : List PyData} {v : V} {d : PyData} (hl : H l = some (.lst us)) (al : DpAll K (Off l H) us ds) (s : Same H H2) (hd : Dp K H2 v d) (n : noL d = true) : DpAll K (Off l (upd H2 l (.lst (us ++ [v])))) (us ++ [v]) (ds ++ [d]) := by
  rw [show Off l (upd H2 l (.lst (us ++ [v]))) = Off l H2 from by
    funext b
    unfold Off
    split
    · rfl
    · rename_i z
      rw [upd_ne z]]
  exact dpAll_app (dpAll_mono (off_mono s) _ _ al) (.cons (dp_off (s _ _ hl) _ _ n hd) .nil)
theorem keep_row {H0 H2 : Hp} {l : Addr} {o : HO} (nl : H0 l = none) (s : Same H0 H2) : Same H0 (upd H2 l o) := fun b x e => by
  rw [upd_ne (ne_of_none e nl)]
  exact s b x e
def sp_row_alone (K : PySem.W.Frag) (C : Addr) : Sp := fun vs H Q _ => ∃ v u room ls y w r, vs = [v, u] ∧ Dp K H v (shD room ls) ∧ BandAt C H y w u r ∧ RRow K H Q ls (rowAlone y w r)
theorem ok_row_alone (T : Tx K mg) : FnOk P w K mg base CX0 3 T.f_row_alone T.fd_row_alone ["shelf", "band"] (sp_row_alone K T.C_Band) := by
  have G_raised := ok_raised (P := P) (w := w) (base := base) T
  have G_lowered := ok_lowered (P := P) (w := w) (base := base) T
  refine T.F_row_alone.ok sc_row_alone (fun vs H Q E h => ?_) (fun cdv A outer s H vs Q E hr h => ?_)
  · obtain ⟨_, _, _, _, _, _, _, rfl, _⟩ := h
    rfl
  · obtain ⟨v, u, room, ls, y, w, r, rfl, hv, ⟨x, dx, rfl, hx⟩, q⟩ := h
    refine ⟨_, (pss_cons (ps_set (i := 2) sc_row_alone.nd rfl (.inl rfl) (pe_lst pa_nil))
      (C8.pss_cut (ps_if (pt_val (pe_fld (pv 1) rfl)) (pss_one (ps_expr (pe_bm PySem.F.plainAttrs_list PySem.F.slot_list_append PySem.F.type_list_append mt_append (pv 2) (pa_cons (pe_call (G_raised.mono (by first | decide | omega)) hr (by rfl) T.g_raised T.F_raised.kp T.b_raised .nil pass0 (pa_cons (pv 0) (pa_cons (pe_fld (pv 1) rfl) (pa_cons (pe_fld (pv 1) rfl) pa_nil)))) pa_nil)))) pss_nil)
      (C8.pss_cut (ps_if (pt_val (pe_fld (pv 1) rfl)) (pss_one (ps_expr (pe_bm PySem.F.plainAttrs_list PySem.F.slot_list_append PySem.F.type_list_append mt_append (pv 2) (pa_cons (pe_call (G_lowered.mono (by first | decide | omega)) hr (by rfl) T.g_lowered T.F_lowered.kp T.b_lowered .nil pass0 (pa_cons (pv 0) (pa_cons (pe_fld (pv 1) rfl) (pa_cons (pe_fld (pv 1) rfl) pa_nil)))) pa_nil)))) pss_nil)
      (pss_one (ps_ret (pv 2)))))), ?_⟩
    refine ⟨Nat.zero_le _, fun l nl => ?_⟩
    have s1 := same_new (o := .lst []) nl
    refine ⟨fun σ' H' => Same H H' ∧ σ' = [some v, some (.ref x), some (.ref l)] ∧ ∃ us, H' l = some (.lst us) ∧ DpAll K (Off l H') us (((if y r.1 < w r.1 then [((true, r.1, w r.1) : Push)] else [])).map (puD ls)), ?_, ?_⟩
    · refine ⟨.ref x, rfl, x, T.C_Band, dx, _, _, rfl, s1 _ _ hx, T.cl_Band, T.na_Band_up, band_up _ _ _, _, rfl, ?_⟩
      show if decide (y r.1 < w r.1) = true then _ else _
      by_cases c : y r.1 < w r.1
      · rw [decide_eq_true c]
        refine iteT ⟨.ref l, rfl, .inl ⟨rfl, _, .inl (.inl upd_same)⟩, v, rfl, .ref x, rfl, x, T.C_Band, dx, _, _, rfl, s1 _ _ hx, T.cl_Band, T.na_Band_first, band_first _ _ _, .ref x, rfl, x, T.C_Band, dx, _, _, rfl, s1 _ _ hx, T.cl_Band, T.na_Band_place, band_place _ _ _, v, room, ls, r.1, w r.1, rfl, Dpm s1 hv, fun z H2 s2 hz => ?_⟩
        refine ⟨l, [], _, rfl, rfl, s2 _ _ upd_same, small1000 (by simp), keep_row nl (s1.trans s2), rfl, [] ++ [z], upd_same, ?_⟩
        rw [if_pos c]
        exact app_row (K := K) (ds := []) upd_same .nil s2 hz (noL_puD _ _)
      · rw [decide_eq_false c]
        refine iteF ⟨s1, rfl, [], upd_same, ?_⟩
        rw [if_neg c]
        exact .nil
    · rintro σ' H1 ⟨g1, rfl, us, hl, al⟩
      have hlen : us.length ≤ 1 := by
        have h1 := dpAll_len al
        rw [List.length_map] at h1
        rw [h1]
        split <;> simp
      refine ⟨fun σ' H' => Same H H' ∧ σ' = [some v, some (.ref x), some (.ref l)] ∧ ∃ us, H' l = some (.lst us) ∧ DpAll K (Off l H') us ((rowAlone y w r).map (puD ls)), ?_, ?_⟩
      · refine ⟨.ref x, rfl, x, T.C_Band, dx, _, _, rfl, g1 _ _ hx, T.cl_Band, T.na_Band_down, band_down _ _ _, _, rfl, ?_⟩
        show if decide (w r.1 < y (r.2 - 1)) = true then _ else _
        unfold rowAlone
        rw [List.map_append]
        by_cases c : w r.1 < y (r.2 - 1)
        · rw [decide_eq_true c]
          refine iteT ⟨.ref l, rfl, .inl ⟨rfl, _, .inl (.inl hl)⟩, v, rfl, .ref x, rfl, x, T.C_Band, dx, _, _, rfl, g1 _ _ hx, T.cl_Band, T.na_Band_beyond, band_beyond _ _ _, .ref x, rfl, x, T.C_Band, dx, _, _, rfl, g1 _ _ hx, T.cl_Band, T.na_Band_place, band_place _ _ _, v, room, ls, r.2, w r.1, rfl, Dpm g1 hv, fun z H2 s2 hz => ?_⟩
          refine ⟨l, us, _, rfl, rfl, s2 _ _ hl, small1000 (by omega), keep_row nl (g1.trans s2), rfl, us ++ [z], upd_same, ?_⟩
          rw [if_pos c]
          exact app_row hl al s2 hz (noL_puD _ _)
        · rw [decide_eq_false c]
          refine iteF ⟨g1, rfl, us, hl, ?_⟩
          rw [if_neg c]
          simpa using al
      · rintro σ' H2 ⟨g2, rfl, us, hl, al⟩
        exact ⟨.ref l, rfl, q l H2 us g2 nl hl al⟩
/-! one that serves -/
theorem cut_m1 (xs : List V) : cutV xs none (some (-1)) = xs.dropLast := by
  unfold cutV
  rw [HT.sIx_none, List.drop_zero, Nat.sub_zero, List.dropLast_eq_take]
  have e : HT.sIx xs.length xs.length (some (-1)) = xs.length - 1 := by
    show (if (-1 : Int) < 0 then (-1 + (xs.length : Int)).toNat else min (-1 : Int).toNat xs.length) = xs.length - 1
    rw [if_pos (by decide)]
    omega
  rw [e]
theorem cut_am (xs : List V) {a m : Nat} (h1 : a ≤ m) (h2 : m ≤ xs.length) : cutV xs (some (a : Int)) (some (m : Int)) = (xs.take m).drop a := by
  unfold cutV
  rw [HT.sIx_nat, HT.sIx_nat, Nat.min_eq_left h2, Nat.min_eq_left (Nat.le_trans h1 h2), List.drop_take]
theorem Bands.snoc {C : Addr} {H : Hp} {y w : Nat → Int} : ∀ {us : List V} {G : List (Nat × Nat)}, Bands C H y w us G → G ≠ [] → ∃ us0 u0 G0 l0, us = us0 ++ [u0] ∧ G = G0 ++ [l0] ∧ Bands C H y w us0 G0 ∧ BandAt C H y w u0 l0
  | _, _, .nil, h => absurd rfl h
  | _, _, .cons (v := v) (vs := vs) (r := r) (rs := rs) a h, _ => by
    by_cases e : rs = []
    · subst e
      cases h
      exact ⟨[], v, [], r, rfl, rfl, .nil, a⟩
    · obtain ⟨us0, u0, G0, l0, rfl, rfl, h1, h2⟩ := h.snoc e
      exact ⟨v :: us0, u0, r :: G0, l0, rfl, rfl, .cons a h1, h2⟩
theorem headD_snoc {G : List (Nat × Nat)} {l : Nat × Nat} {r : Nat × Nat} (h : (G ++ [l])[0]? = some r) : (G ++ [l]).headD (0, 0) = r := by
  cases G with
  | nil => simpa using h
  | cons a G => simpa using h
theorem lastD_snoc (G : List (Nat × Nat)) (l : Nat × Nat) : (G ++ [l]).getLastD (0, 0) = l := by
  rw [lastD_ne (by simp)]
  simp
def sp_by_last (K : PySem.W.Frag) (C : Addr) : Sp := fun vs H Q _ => ∃ v a room ls y w us G, vs = [v, .ref a] ∧ Dp K H v (shD room ls) ∧ SqL K H a us ∧ Bands C H y w us G ∧ G ≠ [] ∧ G.length ≤ 8 ∧ RRow K H Q ls (rowLast w G (G.headD (0, 0)) (G.getLastD (0, 0)))
theorem ok_row_served_by_last (T : Tx K mg) : FnOk P w K mg base CX0 3 T.f_row_served_by_last T.fd_row_served_by_last ["shelf", "bands"] (sp_by_last K T.C_Band) := by
  have G_raised := ok_raised (P := P) (w := w) (base := base) T
  have G_lowered := ok_lowered (P := P) (w := w) (base := base) T
  refine T.F_row_served_by_last.ok sc_row_served_by_last (fun vs H Q E h => ?_) (fun cdv A outer s H vs Q E hr h => ?_)
  · obtain ⟨_, _, _, _, _, _, _, _, rfl, _⟩ := h
    rfl
  · obtain ⟨v, a, room, ls, y, w, us, G, rfl, hv, sa, bs, hG, g8, q⟩ := h
    obtain ⟨us0, u0, G0, l0, rfl, rfl, bs0, ⟨xl, dl, rfl, hxl⟩⟩ := bs.snoc hG
    have hl0 : 0 < (us0 ++ [V.ref xl]).length := by simp
    obtain ⟨r0, er0, ⟨xf, df, exf, hxf⟩⟩ := bs.get (List.getElem?_eq_getElem hl0)
    have exf' : (us0 ++ [V.ref xl])[0]? = some (.ref xf) := by rw [List.getElem?_eq_getElem hl0, exf]
    rw [headD_snoc er0, lastD_snoc] at q
    have lb := bs0.len
    have l8 : G0.length ≤ 7 := by simpa using g8
    refine ⟨_, (pss_cons (ps_set (i := 2) sc_row_served_by_last.nd rfl (.inl rfl) (pe_lst (pa_cons (pe_call (G_raised.mono (by first | decide | omega)) hr (by rfl) T.g_raised T.F_raised.kp T.b_raised .nil pass0 (pa_cons (pv 0) (pa_cons (pe_fld (pe_ix ix_list (pv 1) pe_int (fun _ _ => rfl)) rfl) (pa_cons (pe_fld (pe_ix ix_list (pv 1) (pe_un un_neg pe_int) (fun _ _ => rfl)) rfl) pa_nil)))) pa_nil)))
      (pss_cons (ps_for PassesOwn.never rfl (pi_list (pe_slice sl_list (pv 1) po_none (po_some (pe_un un_neg pe_int)))) (pg_name (i := 3) sc_row_served_by_last.nd rfl (.inl rfl))
      (pss_one (ps_expr (pe_bm PySem.F.plainAttrs_list PySem.F.slot_list_append PySem.F.type_list_append mt_append (pv 2) (pa_cons (pe_call (G_lowered.mono (by first | decide | omega)) hr (by rfl) T.g_lowered T.F_lowered.kp T.b_lowered .nil pass0 (pa_cons (pv 0) (pa_cons (pe_fld (pv 3) rfl) (pa_cons (pe_fld (pv 3) rfl) pa_nil)))) pa_nil)))))
      (pss_one (ps_ret (pv 2))))), ?_⟩
    refine ⟨v, rfl, .ref a, rfl, a, _, 0, _, rfl, rfl, sa, atI_nat (j := 0) exf', xf, T.C_Band, df, _, _, rfl, hxf, T.cl_Band, T.na_Band_first, band_first _ _ _, ?_⟩
    refine ⟨.ref a, rfl, 1, rfl, a, _, -1, _, rfl, rfl, sa, atI_last _ _, xl, T.C_Band, dl, _, _, rfl, hxl, T.cl_Band, T.na_Band_place, band_place _ _ _, ?_⟩
    refine ⟨v, room, ls, r0.1, w l0.1, rfl, hv, fun z H1 s1 hz => ?_⟩
    refine ⟨by show 1 ≤ sizeLine; decide, fun l nl => ?_⟩
    have t2 := same_new (o := .lst [z]) nl
    have s2 := s1.trans t2
    have nlH : H l = none := s1.free nl
    have hl2 : upd H1 l (.lst [z]) l = some (.lst [z]) := upd_same
    have al2 : DpAll K (Off l (upd H1 l (.lst [z]))) [z] [puD ls (true, r0.1, w l0.1)] := .cons (dp_off hl2 _ _ (noL_puD _ _) (Dpm t2 hz)) .nil
    generalize upd H1 l (.lst [z]) = H2 at *
    refine ⟨.ref a, rfl, 1, rfl, _, rfl, a, _, rfl, s2.seq sa, fun p3 np3 => ?_⟩
    rw [cut_m1, List.dropLast_concat]
    have t3 := same_new (o := .lst us0) np3
    have hp3 : upd H2 p3 (.lst us0) p3 = some (.lst us0) := upd_same
    have hl3 := t3 _ _ hl2
    have al3 := dpAll_mono (off_mono (k := l) t3) _ _ al2
    have s3 := s2.trans t3
    have npl : p3 ≠ l := (ne_of_none hl2 np3).symm
    generalize upd H2 p3 (.lst us0) = H3 at *
    refine ⟨p3, rfl, ⟨us0, .inl (.inl hp3)⟩, ?_⟩
    refine for_list (K := K) (a := p3) (xs := us0) (fun i σ H' => Same H H' ∧ H' p3 = some (.lst us0) ∧ ∃ us' y3, σ = [some v, some (.ref a), some (.ref l), y3] ∧ H' l = some (.lst us') ∧ us'.length = i + 1 ∧ DpAll K (Off l H') us' (puD ls (true, r0.1, w l0.1) :: ((G0.take i).map fun r => puD ls (false, r.2, w r.1))))
      ⟨s3, hp3, [z], _, rfl, hl3, rfl, al3⟩ (fun i σ H' _ p => .inl (.inl p.2.1)) (fun i x σ H4 hx p => ?_) (fun σ H4 p => ?_)
    · obtain ⟨s4, hp4, us', y3, rfl, hl4, hul, al4⟩ := p
      have hi : i < us0.length := (List.getElem?_eq_some_iff.mp hx).1
      obtain ⟨r, er, ⟨xb, db, rfl, hxb⟩⟩ := bs0.get hx
      have hxb4 := s4 _ _ hxb
      refine ⟨.ref l, rfl, .inl ⟨rfl, _, .inl (.inl hl4)⟩, v, rfl, _, rfl, xb, T.C_Band, db, _, _, rfl, hxb4, T.cl_Band, T.na_Band_beyond, band_beyond _ _ _, _, rfl, xb, T.C_Band, db, _, _, rfl, hxb4, T.cl_Band, T.na_Band_place, band_place _ _ _, v, room, ls, r.2, w r.1, rfl, Dpm s4 hv, fun z5 H5 s5 hz5 => ?_⟩
      refine ⟨l, us', _, rfl, rfl, s5 _ _ hl4, small1000 (by omega), keep_row nlH (s4.trans s5), ?_, us' ++ [z5], _, rfl, upd_same, by rw [List.length_append, hul]; rfl, ?_⟩
      · rw [upd_ne npl]
        exact s5 _ _ hp4
      · rw [List.take_add_one, er, List.map_append]
        exact app_row hl4 al4 s5 hz5 (noL_puD _ _)
    · obtain ⟨s4, hp4, us', y3, rfl, hl4, hul, al4⟩ := p
      refine ⟨.ref l, rfl, q l H4 us' s4 nlH hl4 ?_⟩
      rw [lb, List.take_length] at al4
      unfold rowLast
      rw [List.dropLast_concat, List.map_cons, List.map_map]
      exact al4
def sp_by_first (K : PySem.W.Frag) (C : Addr) : Sp := fun vs H Q _ => ∃ v a room ls y w us G, vs = [v, .ref a] ∧ Dp K H v (shD room ls) ∧ SqL K H a us ∧ Bands C H y w us G ∧ G ≠ [] ∧ G.length ≤ 8 ∧ RRow K H Q ls (rowFirst y w G (G.headD (0, 0)) (G.getLastD (0, 0)))
theorem ok_row_served_by_first (T : Tx K mg) : FnOk P w K mg base CX0 3 T.f_row_served_by_first T.fd_row_served_by_first ["shelf", "bands"] (sp_by_first K T.C_Band) := by
  have G_raised := ok_raised (P := P) (w := w) (base := base) T
  have G_lowered := ok_lowered (P := P) (w := w) (base := base) T
  refine T.F_row_served_by_first.ok sc_row_served_by_first (fun vs H Q E h => ?_) (fun cdv A outer s H vs Q E hr h => ?_)
  · obtain ⟨_, _, _, _, _, _, _, _, rfl, _⟩ := h
    rfl
  · obtain ⟨v, a, room, ls, y, w, us, G, rfl, hv, sa, bs, hG, g8, q⟩ := h
    obtain ⟨us0, u0, G0, l0, eus, eG, bs0, ⟨xl, dl, rfl, hxl⟩⟩ := bs.snoc hG
    have elast : G.getLastD (0, 0) = l0 := by rw [eG]; exact lastD_snoc _ _
    have hlst : atI us (-1) = some (.ref xl) := by rw [eus]; exact atI_last _ _
    cases bs with
    | nil => exact absurd rfl hG
    | @cons vf us1 rf G1 bf bs1 =>
      obtain ⟨xf, df, rfl, hxf⟩ := bf
      rw [elast] at q
      simp only [List.headD_cons] at q
      have lb := bs1.len
      have l8 : G1.length ≤ 7 := by simpa using g8
      clear eus eG elast bs0
      refine ⟨_, (pss_cons (ps_set (i := 2) sc_row_served_by_first.nd rfl (.inl rfl) (pe_ix ix_list (pv 1) pe_int (fun _ _ => rfl)))
      (pss_cons (ps_set (i := 3) sc_row_served_by_first.nd rfl (.inl rfl) (pe_lst (pa_cons (pe_call (G_lowered.mono (by first | decide | omega)) hr (by rfl) T.g_lowered T.F_lowered.kp T.b_lowered .nil pass0 (pa_cons (pv 0) (pa_cons (pe_fld (pe_ix ix_list (pv 1) (pe_un un_neg pe_int) (fun _ _ => rfl)) rfl) (pa_cons (pe_fld (pv 2) rfl) pa_nil)))) pa_nil)))
      (C8.pss_cut (ps_if (pt_val (pe_fld (pv 2) rfl)) (pss_one (ps_expr (pe_bm PySem.F.plainAttrs_list PySem.F.slot_list_append PySem.F.type_list_append mt_append (pv 3) (pa_cons (pe_call (G_raised.mono (by first | decide | omega)) hr (by rfl) T.g_raised T.F_raised.kp T.b_raised .nil pass0 (pa_cons (pv 0) (pa_cons (pe_fld (pv 2) rfl) (pa_cons (pe_fld (pv 2) rfl) pa_nil)))) pa_nil)))) pss_nil)
      (pss_cons (ps_for PassesOwn.never rfl (pi_list (pe_slice sl_list (pv 1) (po_some pe_int) po_none)) (pg_name (i := 4) sc_row_served_by_first.nd rfl (.inl rfl))
      (pss_one (ps_expr (pe_bm PySem.F.plainAttrs_list PySem.F.slot_list_append PySem.F.type_list_append mt_append (pv 3) (pa_cons (pe_call (G_raised.mono (by first | decide | omega)) hr (by rfl) T.g_raised T.F_raised.kp T.b_raised .nil pass0 (pa_cons (pv 0) (pa_cons (pe_fld (pv 4) rfl) (pa_cons (pe_fld (pv 4) rfl) pa_nil)))) pa_nil)))))
      (pss_one (ps_ret (pv 3))))))), ?_⟩
      refine ⟨.ref a, rfl, a, _, 0, _, rfl, rfl, sa, atI_nat (j := 0) rfl, ?_⟩
      refine ⟨v, rfl, .ref a, rfl, 1, rfl, a, _, -1, _, rfl, rfl, sa, hlst, xl, T.C_Band, dl, _, _, rfl, hxl, T.cl_Band, T.na_Band_beyond, band_beyond _ _ _, _, rfl, xf, T.C_Band, df, _, _, rfl, hxf, T.cl_Band, T.na_Band_place, band_place _ _ _, v, room, ls, l0.2, w rf.1, rfl, hv, fun z H1 s1 hz => ?_⟩
      refine ⟨by show 1 ≤ sizeLine; decide, fun l nl => ?_⟩
      have t2 := same_new (o := .lst [z]) nl
      have s2 := s1.trans t2
      have nlH : H l = none := s1.free nl
      have hl2 : upd H1 l (.lst [z]) l = some (.lst [z]) := upd_same
      have al2 : DpAll K (Off l (upd H1 l (.lst [z]))) [z] [puD ls (false, l0.2, w rf.1)] := .cons (dp_off hl2 _ _ (noL_puD _ _) (Dpm t2 hz)) .nil
      generalize upd H1 l (.lst [z]) = H2 at *
      refine ⟨fun σ' H' => Same H H' ∧ σ' = [some v, some (.ref a), some (.ref xf), some (.ref l), none] ∧ ∃ us', H' l = some (.lst us') ∧ us'.length ≤ 2 ∧ DpAll K (Off l H') us' (puD ls (false, l0.2, w rf.1) :: ((if y rf.1 < w rf.1 then [((true, rf.1, w rf.1) : Push)] else [])).map (puD ls)), ?_, ?_⟩
      · refine ⟨.ref xf, rfl, xf, T.C_Band, df, _, _, rfl, s2 _ _ hxf, T.cl_Band, T.na_Band_up, band_up _ _ _, _, rfl, ?_⟩
        show if decide (y rf.1 < w rf.1) = true then _ else _
        by_cases c : y rf.1 < w rf.1
        · rw [decide_eq_true c]
          refine iteT ⟨.ref l, rfl, .inl ⟨rfl, _, .inl (.inl hl2)⟩, v, rfl, _, rfl, xf, T.C_Band, df, _, _, rfl, s2 _ _ hxf, T.cl_Band, T.na_Band_first, band_first _ _ _, _, rfl, xf, T.C_Band, df, _, _, rfl, s2 _ _ hxf, T.cl_Band, T.na_Band_place, band_place _ _ _, v, room, ls, rf.1, w rf.1, rfl, Dpm s2 hv, fun z3 H3 s3 hz3 => ?_⟩
          refine ⟨l, [z], _, rfl, rfl, s3 _ _ hl2, small1000 (by simp), keep_row nlH (s2.trans s3), rfl, [z] ++ [z3], upd_same, by simp, ?_⟩
          rw [if_pos c]
          exact app_row hl2 al2 s3 hz3 (noL_puD _ _)
        · rw [decide_eq_false c]
          refine iteF ⟨s2, rfl, [z], hl2, by simp, ?_⟩
          rw [if_neg c]
          exact al2
      · rintro σ' H3 ⟨s3, rfl, us', hl3, hul3, al3⟩
        refine ⟨.ref a, rfl, 1, rfl, ?_⟩
        unfold tNoPart
        refine ⟨a, _, rfl, s3.seq sa, fun p4 np4 => ?_⟩
        rw [show (some (1 : Int)) = some ((1 : Nat) : Int) from rfl, cut_from, List.drop_succ_cons, List.drop_zero]
        have t4 := same_new (o := .lst us1) np4
        have hp4 : upd H3 p4 (.lst us1) p4 = some (.lst us1) := upd_same
        have hl4 := t4 _ _ hl3
        have al4 := dpAll_mono (off_mono (k := l) t4) _ _ al3
        have s4 := s3.trans t4
        have npl : p4 ≠ l := (ne_of_none hl3 np4).symm
        generalize upd H3 p4 (.lst us1) = H4 at *
        refine ⟨p4, rfl, ⟨us1, .inl (.inl hp4)⟩, ?_⟩
        refine for_list (K := K) (a := p4) (xs := us1) (fun i σ H' => Same H H' ∧ H' p4 = some (.lst us1) ∧ ∃ us' y3, σ = [some v, some (.ref a), some (.ref xf), some (.ref l), y3] ∧ H' l = some (.lst us') ∧ us'.length ≤ i + 2 ∧ DpAll K (Off l H') us' (puD ls (false, l0.2, w rf.1) :: ((if y rf.1 < w rf.1 then [((true, rf.1, w rf.1) : Push)] else [])).map (puD ls) ++ ((G1.take i).map fun r => puD ls (true, r.1, w r.1))))
          ⟨s4, hp4, us', _, rfl, hl4, by omega, by simpa using al4⟩ (fun i σ H' _ p => .inl (.inl p.2.1)) (fun i x σ H5 hx p => ?_) (fun σ H5 p => ?_)
        · obtain ⟨s5, hp5, us', y3, rfl, hl5, hul, al5⟩ := p
          have hi : i < us1.length := (List.getElem?_eq_some_iff.mp hx).1
          obtain ⟨r, er, ⟨xb, db, rfl, hxb⟩⟩ := bs1.get hx
          have hxb5 := s5 _ _ hxb
          refine ⟨.ref l, rfl, .inl ⟨rfl, _, .inl (.inl hl5)⟩, v, rfl, _, rfl, xb, T.C_Band, db, _, _, rfl, hxb5, T.cl_Band, T.na_Band_first, band_first _ _ _, _, rfl, xb, T.C_Band, db, _, _, rfl, hxb5, T.cl_Band, T.na_Band_place, band_place _ _ _, v, room, ls, r.1, w r.1, rfl, Dpm s5 hv, fun z6 H6 s6 hz6 => ?_⟩
          refine ⟨l, us', _, rfl, rfl, s6 _ _ hl5, small1000 (by omega), keep_row nlH (s5.trans s6), ?_, us' ++ [z6], _, rfl, upd_same, by rw [List.length_append]; simp; omega, ?_⟩
          · rw [upd_ne npl]
            exact s6 _ _ hp5
          · rw [List.take_add_one, er, List.map_append, ← List.append_assoc]
            exact app_row hl5 al5 s6 hz6 (noL_puD _ _)
        · obtain ⟨s5, hp5, us', y3, rfl, hl5, hul, al5⟩ := p
          refine ⟨.ref l, rfl, q l H5 us' s5 nlH hl5 ?_⟩
          rw [lb, List.take_length] at al5
          unfold rowFirst
          rw [List.map_cons, List.map_append, List.tail_cons, List.map_map]
          exact al5
/-! ### together -/
def sp_together (K : PySem.W.Frag) (C : Addr) : Sp := fun vs H Q _ => ∃ v a room ls y w us G, vs = [v, .ref a] ∧ Dp K H v (shD room ls) ∧ SqL K H a us ∧ Bands C H y w us G ∧ G ≠ [] ∧ G.length ≤ 8 ∧ RRow K H Q ls (rowT y w G)
theorem ok_row_together (T : Tx K mg) : FnOk P w K mg base CX0 4 T.f_row_together T.fd_row_together ["shelf", "bands"] (sp_together K T.C_Band) := by
  have G_row_alone := ok_row_alone (P := P) (w := w) (base := base) T
  have G_row_served_by_last := ok_row_served_by_last (P := P) (w := w) (base := base) T
  have G_row_served_by_first := ok_row_served_by_first (P := P) (w := w) (base := base) T
  refine T.F_row_together.ok sc_row_together (fun vs H Q E h => ?_) (fun cdv A outer s H vs Q E hr h => ?_)
  · obtain ⟨_, _, _, _, _, _, _, _, rfl, _⟩ := h
    rfl
  · obtain ⟨v, a, room, ls, y, w, us, G, rfl, hv, sa, bs, hG, g8, q⟩ := h
    have lb := bs.len
    refine ⟨_, (pss_cons (ps_if (pt_cmpR op_eq (pe_callB call_len_seq (by rfl) T.n_len (by decide +kernel) (pa_cons (pv 1) pa_nil)) pe_int (nomark _)) (pss_one (ps_ret (pe_call (G_row_alone.mono (by first | decide | omega)) hr (by rfl) T.g_row_alone T.F_row_alone.kp T.b_row_alone .nil pass0 (pa_cons (pv 0) (pa_cons (pe_ix ix_list (pv 1) pe_int (fun _ _ => rfl)) pa_nil))))) pss_nil)
      (pss_cons (ps_if (pt_not (pt_val (pe_fld (pe_ix ix_list (pv 1) (pe_un un_neg pe_int) (fun _ _ => rfl)) rfl))) (pss_one (ps_ret (pe_call (G_row_served_by_last.mono (by first | decide | omega)) hr (by rfl) T.g_row_served_by_last T.F_row_served_by_last.kp T.b_row_served_by_last .nil pass0 (pa_cons (pv 0) (pa_cons (pv 1) pa_nil))))) pss_nil)
      (pss_one (ps_ret (pe_call (G_row_served_by_first.mono (by first | decide | omega)) hr (by rfl) T.g_row_served_by_first T.F_row_served_by_first.kp T.b_row_served_by_first .nil pass0 (pa_cons (pv 0) (pa_cons (pv 1) pa_nil))))))), ?_⟩
    refine ⟨.ref a, rfl, a, us, rfl, .inl sa, rfl, _, rfl, ?_⟩
    unfold rowT at q
    by_cases c : G.length = 1
    · rw [if_pos c] at q
      rw [decide_eq_true (show V.int (us.length : Int) = V.int 1 by rw [lb, c]; rfl)]
      match G, c, bs, q with
      | [r], _, .cons b .nil, q => exact iteT ⟨v, rfl, .ref a, rfl, a, _, 0, _, rfl, rfl, sa, atI_nat (j := 0) rfl, v, _, room, ls, y, w, r, rfl, hv, b, q⟩
    · rw [if_neg c] at q
      rw [decide_eq_false (show ¬ V.int (us.length : Int) = V.int 1 from fun z => c (by have := V.int.inj z; omega))]
      obtain ⟨us0, u0, G0, l0, eus, eG, bs0, ⟨xl, dl, rfl, hxl⟩⟩ := bs.snoc hG
      have elast : G.getLastD (0, 0) = l0 := by rw [eG]; exact lastD_snoc _ _
      have hlst : atI us (-1) = some (.ref xl) := by rw [eus]; exact atI_last _ _
      refine iteF ⟨.ref a, rfl, 1, rfl, a, _, -1, _, rfl, rfl, sa, hlst, xl, T.C_Band, dl, _, _, rfl, hxl, T.cl_Band, T.na_Band_down, band_down _ _ _, _, rfl, ?_⟩
      show if (!decide (w l0.1 < y (l0.2 - 1))) = true then _ else _
      by_cases c2 : w l0.1 < y (l0.2 - 1)
      · rw [elast, if_neg (by simpa using c2), ← elast] at q
        rw [decide_eq_true c2]
        exact iteF ⟨v, rfl, .ref a, rfl, v, a, room, ls, y, w, us, G, rfl, hv, sa, bs, hG, g8, q⟩
      · rw [elast, if_pos (by simpa using c2), ← elast] at q
        rw [decide_eq_false c2]
        exact iteT ⟨v, rfl, .ref a, rfl, v, a, room, ls, y, w, us, G, rfl, hv, sa, bs, hG, g8, q⟩
end PS

namespace PS
open PySem PySem.Spec PyProof.Rows L2
variable {P : Program} {w : World} {K : PySem.W.Frag} {mg : Str → Option Value} {base : Heap}
/-! ### a row of the fewest pushes -/
def Fresh (H : Hp) (v : V) : Prop := ∃ c, v = .ref c ∧ H c = none
def sp_shortest (K : PySem.W.Frag) : Sp := fun vs H Q _ => ∃ v u t room ls y w, vs = [v, u, t] ∧ Dp K H v (shD room ls) ∧ ls.length ≤ 8 ∧ Dp K H u (tI (stL ls y)) ∧ Dp K H t (tI (stL ls w)) ∧ Rise ls.length (room - ls.sum) y ∧ Rise ls.length (room - ls.sum) w ∧
  ∀ c H' r us, Same H H' → H c = none → H' c = some (.lst us) → DpAll K (Off c H') us (r.map (puD ls)) → Best ls.length (room - ls.sum) y w r → Q (.ref c) H'
/-- a list of pushes, untouched by what is made elsewhere -/
def RowC (K : PySem.W.Frag) (H : Hp) (ls : List Int) (v : V) (r : List Push) : Prop := ∃ c us, v = .ref c ∧ H c = some (.lst us) ∧ DpAll K (Off c H) us (r.map (puD ls))
theorem noLs_pu (ls : List Int) (r : List Push) : noLs (r.map (puD ls)) = true := noLs_all _ fun d hd => by
  obtain ⟨p, _, rfl⟩ := List.mem_map.mp hd
  exact noL_puD ls p
theorem RowC.keep {H H' : Hp} {ls : List Int} {v : V} {r : List Push} (h : RowC K H ls v r) (s : Same H H') : RowC K H' ls v r := by
  obtain ⟨c, us, rfl, h1, h2⟩ := h
  exact ⟨c, us, rfl, s _ _ h1, dpAll_mono (off_mono s) _ _ h2⟩
theorem RowC.put {H : Hp} {ls : List Int} {v : V} {r : List Push} {l : Addr} {xs zs : List V} (h : RowC K H ls v r) (hl : H l = some (.lst xs)) (nv : v ≠ .ref l) : RowC K (upd H l (.lst zs)) ls v r := by
  obtain ⟨c, us, rfl, h1, h2⟩ := h
  have ncl : c ≠ l := fun z => nv (by rw [z])
  have h3 : upd H l (.lst zs) c = some (.lst us) := by rw [upd_ne ncl]; exact h1
  refine ⟨c, us, rfl, h3, dpAll_off h3 _ _ (noLs_pu ls r) ?_⟩
  have h4 := dpAll_off hl _ _ (noLs_pu ls r) (dpAll_mono (off_same c H) _ _ h2)
  refine dpAll_mono (fun b o e => ?_) _ _ h4
  unfold Off at e
  split at e
  · cases e
  · rename_i nb
    rw [upd_ne nb]
    exact e
theorem RowC.dp {H : Hp} {ls : List Int} {v : V} {r : List Push} (h : RowC K H ls v r) : Dp K H v (roD ls r) := by
  obtain ⟨c, us, rfl, h1, h2⟩ := h
  exact .lst (.inl (.inl h1)) (dpAll_mono (off_same c H) _ _ h2)
def wayL (y w : Nat → Int) (rs : List (Nat × Nat)) (fR : Nat → List Push) (m a : Nat) : List Push := fR a ++ rowT y w ((rs.take (m + 1)).drop a)
theorem ok_shortest_row (T : Tx K mg) : FnOk P w K mg base CX0 5 T.f_shortest_row T.fd_shortest_row ["shelf", "stand", "wish"] (sp_shortest K) := by
  have G_bands_of := ok_bands_of (P := P) (w := w) (base := base) T
  have G_row_together := ok_row_together (P := P) (w := w) (base := base) T
  refine T.F_shortest_row.ok sc_shortest_row (fun vs H Q E h => ?_) (fun cdv A outer s H vs Q E hr h => ?_)
  · obtain ⟨_, _, _, _, _, _, _, rfl, _⟩ := h
    rfl
  · obtain ⟨v, u, t, room, ls, y, w, rfl, hv, n8, hu, ht, riy, riw, q⟩ := h
    refine ⟨_, (pss_cons (ps_set (i := 3) sc_shortest_row.nd rfl (.inr rfl) (pe_call (G_bands_of.mono (by first | decide | omega)) hr (by rfl) T.g_bands_of T.F_bands_of.kp T.b_bands_of .nil pass0 (pa_cons (pv 0) (pa_cons (pv 1) (pa_cons (pv 2) pa_nil)))))
      (pss_cons (ps_set (i := 4) sc_shortest_row.nd rfl (.inr rfl) (pe_lst (pa_cons (pe_lst pa_nil) pa_nil)))
      (pss_cons (ps_for PassesOwn.never rfl (pi_range2 (by rfl) T.n_range (pa_cons pe_int (pa_cons (pe_op op_add (pe_callB call_len_seq (by rfl) T.n_len (by decide +kernel) (pa_cons (pv 3) pa_nil)) pe_int) pa_nil))) (pg_name (i := 5) sc_shortest_row.nd rfl (.inr rfl))
      (pss_cons (ps_setLc (i := 6) (own := [("ahead", 7)]) (g := gName 7) (tt := tYes) rfl sc_shortest_row.nd rfl rfl (sw_true rfl rfl rfl (by decide +kernel)) (pi_range1 (by rfl) T.n_range (pa_cons (pv 5) pa_nil)) (blkOk_by (own := [("ahead", 7)]) (N := ["shelf", "stand", "wish", "bands", "rows", "many", "ways", "ahead"]) (sc := defScope s_shortest_row) (by decide +kernel)) (fun _ _ _ _ _ => (pg_name (i := 7) sc_shortest_row.nd rfl (.inl rfl))) (fun _ _ _ _ _ => pts_nil) (fun _ _ _ _ _ => (pe_op (show OpR _ _ (rCatL K) from op_catL) (pe_ix (show IxR _ (rIxL K) from ix_list) (pv 4) (pv 7) (fun _ _ => rfl)) (pe_call (G_row_together.mono (by first | decide | omega)) hr (by rfl) T.g_row_together T.F_row_together.kp T.b_row_together .nil pass0 (pa_cons (pv 0) (pa_cons (pe_slice (show SlR _ (rSlL K) from sl_list) (pv 3) (po_some (pv 7)) (po_some (pv 5))) pa_nil))))))
      (pss_one (ps_expr (pe_bm PySem.F.plainAttrs_list PySem.F.slot_list_append PySem.F.type_list_append mt_append (pv 4) (pa_cons (pe_minLen rfl (by rfl) T.n_min (by rfl) T.n_len (pa_cons (pv 6) pa_nil)) pa_nil))))))
      (pss_one (ps_ret (pe_ix ix_list (pv 4) (pe_un un_neg pe_int) (fun _ _ => rfl))))))), ?_⟩
    refine ⟨v, rfl, u, rfl, t, rfl, v, u, t, room, ls, y, w, _, rfl, hv, hu, ht, riw, n8, fun pb H1 ub rs s1 npb hpb runs bs => ?_⟩
    have lb := bs.len
    have lr := runs.len
    have r8 : rs.length ≤ 8 := by omega
    refine ⟨Nat.zero_le _, fun e0 ne0 => ⟨by show 1 ≤ sizeLine; decide, fun l nl => ?_⟩⟩
    have t2 := same_new (o := .lst []) ne0
    have nle : e0 ≠ l := fun z => by
      rw [z, upd_same] at nl
      cases nl
    have nl1 : H1 l = none := by rw [upd_ne nle.symm] at nl; exact nl
    have t3 := same_new (o := .lst [.ref e0]) nl
    have hl3 : upd (upd H1 e0 (.lst [])) l (.lst [.ref e0]) l = some (.lst [.ref e0]) := upd_same
    have he3 : upd (upd H1 e0 (.lst [])) l (.lst [.ref e0]) e0 = some (.lst []) := t3 _ _ upd_same
    have g3 := t2.trans t3
    generalize upd (upd H1 e0 (.lst [])) l (.lst [.ref e0]) = H3 at *
    refine ⟨.ref pb, rfl, pb, ub, rfl, .inl (.inl (.inl (g3 _ _ hpb))), _, _, rfl, rfl, _, _, rfl, ⟨by omega, by omega, by omega, by rw [lb]; omega⟩, ?_⟩
    rw [lb]
    refine for_range (lo := 1) (n := ((rs.length : Int) + 1 - 1).toNat) (fun i σ H' => Same H1 H' ∧ ∃ (vs : List V) (fR : Nat → List Push) (y5 y6 : Option V), σ = [some v, some u, some t, some (.ref pb), some (.ref l), y5, y6, none] ∧ H' l = some (.lst vs) ∧ vs.length = i + 1 ∧ (∀ m, m ≤ i → Told ls.length (room - ls.sum) y w rs m (fR m)) ∧ (∀ m x, vs[m]? = some x → RowC K H' ls x (fR m) ∧ x ≠ .ref l ∧ Fresh H x))
      ⟨g3, [.ref e0], fun _ => [], none, none, rfl, hl3, rfl, fun m hm => ?_, fun m x hx => ?_⟩ (fun i σ H4 hi p => ?_) (fun σ H4 p => ?_)
    · have : m = 0 := by omega
      subst this
      exact told_nil
    · have hm : m = 0 := by
        have := (List.getElem?_eq_some_iff.mp hx).1
        simpa using this
      subst hm
      have : x = .ref e0 := by simpa using hx.symm
      subst this
      exact ⟨⟨e0, [], rfl, he3, .nil⟩, fun z => nle (by cases z; rfl), e0, rfl, s1.free ne0⟩
    · obtain ⟨s4, vs, fR, y5, y6, rfl, hl4, hvl, told, rows⟩ := p
      have hir : i < rs.length := by omega
      have hpb4 := s4 _ _ hpb
      have bs4 := bs.same s4
      -- the ways
      refine ⟨_, rfl, _, rfl, by omega, by omega, fun D nD => ?_⟩
      have nDl : l ≠ D := ne_of_none hl4 nD
      refine lc_range (lo := 0) (n := (1 + (i : Int)).toNat) (fun a H' => Same H4 H' ∧ ∃ us, H' D = some (.lst us) ∧ us.length = a ∧ ∀ m x, us[m]? = some x → RowC K H' ls x (wayL y w rs fR i m) ∧ x ≠ .ref l ∧ x ≠ .ref D ∧ Fresh H x)
        ⟨same_new nD, [], upd_same, rfl, fun m x hx => by simp at hx⟩ (fun a H5 ha p => ?_) (fun H5 p => ?_)
      · obtain ⟨s5, us, hD, hul, hus⟩ := p
        have ha' : a ≤ i := by omega
        have hva : vs[a]? = some vs[a] := List.getElem?_eq_getElem (by omega)
        obtain ⟨rowA, nA, frA⟩ := rows a _ hva
        obtain ⟨c1, us1, ec1, hc1, al1⟩ := rowA
        have hl5 := s5 _ _ hl4
        refine ⟨rfl, .ref l, rfl, _, rfl, l, _, _, _, rfl, rfl, .inl (.inl hl5), at_of (j := a) (by omega) hva, ?_⟩
        rw [ec1]
        refine ⟨v, rfl, .ref pb, rfl, _, rfl, _, rfl, _, rfl, _, rfl, pb, ub, rfl, .inl (.inl (s5 _ _ hpb4)), fun p6 np6 => ?_⟩
        rw [show (0 : Int) + (a : Int) = ((a : Nat) : Int) from by omega, show (1 : Int) + (i : Int) = ((i + 1 : Nat) : Int) from by omega, cut_am ub (by omega) (by omega)]
        have t6 := same_new (o := .lst ((ub.take (i + 1)).drop a)) np6
        have hp6 : upd H5 p6 (.lst ((ub.take (i + 1)).drop a)) p6 = some (.lst ((ub.take (i + 1)).drop a)) := upd_same
        have g6 := s5.trans t6
        generalize upd H5 p6 (.lst ((ub.take (i + 1)).drop a)) = H6 at *
        have hne : (rs.take (i + 1)).drop a ≠ [] := fun z => by
          have := congrArg List.length z
          rw [List.length_drop, List.length_take] at this
          simp at this
          omega
        refine ⟨v, p6, room, ls, y, w, _, (rs.take (i + 1)).drop a, rfl, Dpm ((s1.trans s4).trans g6) hv, .inl (.inl hp6), ((bs4.same g6).take (i + 1)).drop a, hne, by rw [List.length_drop, List.length_take]; omega, fun p7 H7 us7 s7 np7 hp7 al7 => ?_⟩
        have g7 := g6.trans s7
        have hc7 := g7 _ _ hc1
        have hl1 := dpAll_len al1
        rw [List.length_map] at hl1
        have hl7 := dpAll_len al7
        rw [List.length_map] at hl7
        have b1 := (told a ha').len
        have b2 := rowT_le (y := y) (w := w) hne
        have b3 : ((rs.take (i + 1)).drop a).length ≤ 8 := by rw [List.length_drop, List.length_take]; omega
        refine ⟨c1, p7, us1, us7, rfl, rfl, .inl (.inl hc7), .inl (.inl hp7), Nat.le_of_lt (small1000 (by omega)), fun p8 np8 => ?_⟩
        have t8 := same_new (o := .lst (us1 ++ us7)) np8
        have hp8 : upd H7 p8 (.lst (us1 ++ us7)) p8 = some (.lst (us1 ++ us7)) := upd_same
        have g8 := g7.trans t8
        have hD8 := t8 _ _ (s7 _ _ (t6 _ _ hD))
        have hl8 := g8 _ _ hl4
        have al8 : DpAll K (Off p8 (upd H7 p8 (.lst (us1 ++ us7)))) (us1 ++ us7) ((wayL y w rs fR i a).map (puD ls)) := by
          refine dpAll_off hp8 _ _ (noLs_pu ls _) ?_
          unfold wayL
          rw [List.map_append]
          exact dpAll_app (dpAll_mono ((off_same c1 H4).trans g8) _ _ al1) (dpAll_mono ((off_same p7 H7).trans t8) _ _ al7)
        have np8H : H p8 = none := (s1.trans s4).free (g7.free np8)
        generalize upd H7 p8 (.lst (us1 ++ us7)) = H8 at *
        have n8D : p8 ≠ D := (ne_of_none (s7 _ _ (t6 _ _ hD)) np8).symm
        have n8l : p8 ≠ l := (ne_of_none (g7 _ _ hl4) np8).symm
        refine ⟨us, hD8, small1000 (by omega), fun b o e => ?_, us ++ [.ref p8], upd_same, by rw [List.length_append, hul]; rfl, fun m x hx => ?_⟩
        · rw [upd_ne (ne_of_none e nD)]
          exact g8 _ _ e
        · by_cases cm : m < us.length
          · rw [List.getElem?_append_left cm] at hx
            obtain ⟨h1, h2, h3, h4⟩ := hus m x hx
            exact ⟨(h1.keep ((t6.trans s7).trans t8)).put hD8 h3, h2, h3, h4⟩
          · have em : m = a := by
              have := (List.getElem?_eq_some_iff.mp hx).1
              rw [List.length_append] at this
              simp at this
              omega
            subst em
            rw [List.getElem?_append_right (by omega), hul, Nat.sub_self] at hx
            cases Option.some.inj hx
            exact ⟨(show RowC K H8 ls (.ref p8) _ from ⟨p8, _, rfl, hp8, al8⟩).put hD8 (fun z => n8D (by cases z; rfl)), fun z => n8l (by cases z; rfl), fun z => n8D (by cases z; rfl), p8, rfl, np8H⟩
      · obtain ⟨s5, us, hD, hul, hus⟩ := p
        have hul' : us.length = i + 1 := by omega
        have hl5 := s5 _ _ hl4
        -- the shortest of them
        refine ⟨.ref l, rfl, .inl ⟨rfl, _, .inl (.inl hl5)⟩, .ref D, rfl, D, us, fun m => (wayL y w rs fR i m).length, rfl, .inl (.inl hD), by omega, fun m x hx => ?_, fun a x hx hmin => ?_⟩
        · obtain ⟨⟨c, us', rfl, h1, h2⟩, _⟩ := hus m x hx
          refine ⟨c, us', rfl, .inl (.inl h1), ?_⟩
          have := dpAll_len h2
          rwa [List.length_map] at this
        · have ha : a ≤ i := by
            have := (List.getElem?_eq_some_iff.mp hx).1
            omega
          obtain ⟨h1, h2, h3, h4⟩ := hus a x hx
          refine ⟨l, vs, x, rfl, rfl, hl5, small1000 (by omega), fun b o e => ?_, vs ++ [x], fun m => if m ≤ i then fR m else wayL y w rs fR i a, _, _, rfl, upd_same, by rw [List.length_append, hvl]; rfl, fun m hm => ?_, fun m z hz => ?_⟩
          · rw [upd_ne (ne_of_none e nl1)]
            exact s5 _ _ (s4 _ _ e)
          · dsimp only
            by_cases c : m ≤ i
            · rw [if_pos c]
              exact told m c
            · have : m = i + 1 := by omega
              subst this
              rw [if_neg c]
              exact told_next riw riy runs hir fR told ha _ rfl fun b hb => hmin b (by omega)
          · dsimp only
            by_cases c : m < vs.length
            · rw [List.getElem?_append_left c] at hz
              obtain ⟨k1, k2, k3⟩ := rows m z hz
              rw [if_pos (by omega)]
              exact ⟨(k1.keep s5).put hl5 k2, k2, k3⟩
            · have em : m = i + 1 := by
                have := (List.getElem?_eq_some_iff.mp hz).1
                rw [List.length_append] at this
                simp at this
                omega
              subst em
              rw [List.getElem?_append_right (by omega), hvl, Nat.sub_self] at hz
              cases Option.some.inj hz
              rw [if_neg (by omega)]
              exact ⟨h1.put hl5 h2, h2, h4⟩
    · obtain ⟨s4, vs, fR, y5, y6, rfl, hl4, hvl, told, rows⟩ := p
      rw [show ((rs.length : Int) + 1 - 1).toNat = rs.length from by omega] at hvl told
      have hlast : vs[rs.length]? = some vs[rs.length] := List.getElem?_eq_getElem (by omega)
      have hat : atI vs (-1) = some vs[rs.length] := by
        have e : vs = vs.take rs.length ++ [vs[rs.length]] := by
          have := List.take_append_drop rs.length vs
          rw [List.drop_eq_getElem_cons (by omega), List.drop_of_length_le (by omega)] at this
          exact this.symm
        have := atI_last (vs.take rs.length) vs[rs.length]
        rw [← e] at this
        exact this
      obtain ⟨⟨c, us, ec, hc, al⟩, _, c', ec', nc⟩ := rows _ _ hlast
      rw [ec] at ec'
      cases ec'
      refine ⟨.ref l, rfl, 1, rfl, l, _, -1, _, rfl, rfl, .inl (.inl hl4), hat, ?_⟩
      rw [ec]
      exact q c H4 (fR rs.length) us (s1.trans s4) nc hc al (best_of runs (told rs.length (Nat.le_refl _)))
def sp_need_both (K : PySem.W.Frag) : Sp := fun vs H Q _ => ∃ v u t room ls d e, vs = [v, u, t] ∧ Dp K H v (shD room ls) ∧ ShOk room ls ∧ Dp K H u d ∧ isStand room ls d = true ∧ Dp K H t e ∧ isStand room ls e = true ∧ ∀ H', Same H H' → Q .non H'
theorem ok_need_both (T : Tx K mg) : FnOk P w K mg base CX0 8 T.f_need_both T.fd_need_both ["shelf", "stand", "wish"] (sp_need_both K) := by
  have G_need_stand := ok_need_stand (P := P) (w := w) (base := base) T
  refine T.F_need_both.ok sc_need_both (fun vs H Q E h => ?_) (fun cdv A outer s H vs Q E hr h => ?_)
  · obtain ⟨_, _, _, _, _, _, _, rfl, _⟩ := h
    rfl
  · obtain ⟨v, u, t, room, ls, d, e, rfl, hv, sh, hu, du, ht, dt, q⟩ := h
    refine ⟨_, (pss_cons (ps_expr (pe_call (G_need_stand.mono (by first | decide | omega)) hr (by rfl) T.g_need_stand T.F_need_stand.kp T.b_need_stand .nil pass0 (pa_cons (pv 0) (pa_cons (pv 1) pa_nil))))
      (pss_one (ps_expr (pe_call (G_need_stand.mono (by first | decide | omega)) hr (by rfl) T.g_need_stand T.F_need_stand.kp T.b_need_stand .nil pass0 (pa_cons (pv 0) (pa_cons (pv 2) pa_nil)))))), ?_⟩
    refine ⟨v, rfl, u, rfl, v, u, room, ls, d, rfl, hv, sh, hu, du, fun H1 s1 => ?_⟩
    exact ⟨v, rfl, t, rfl, v, t, room, ls, e, rfl, Dpm s1 hv, sh, Dpm s1 ht, dt, fun H2 s2 => q H2 (s1.trans s2)⟩
end PS

namespace PS
open PySem PySem.Spec PyProof.Rows L2
variable {P : Program} {w : World} {K : PySem.W.Frag} {mg : Str → Option Value} {base : Heap}
def sp_pushes_to (K : PySem.W.Frag) : Sp := fun vs H Q _ => ∃ v u t room ls y w, vs = [v, u, t] ∧ Dp K H v (shD room ls) ∧ ShOk room ls ∧ Dp K H u (tI (stL ls y)) ∧ Dp K H t (tI (stL ls w)) ∧ Rise ls.length (room - ls.sum) y ∧ Rise ls.length (room - ls.sum) w ∧
  ∀ c H' r us, Same H H' → H c = none → H' c = some (.lst us) → DpAll K (Off c H') us (r.map (puD ls)) → Best ls.length (room - ls.sum) y w r → Q (.ref c) H'
theorem ok_pushes_to (T : Tx K mg) : FnOk P w K mg base CX0 9 T.f_pushes_to T.fd_pushes_to ["shelf", "stand", "wish"] (sp_pushes_to K) := by
  have G_need_both := ok_need_both (P := P) (w := w) (base := base) T
  have G_shortest_row := ok_shortest_row (P := P) (w := w) (base := base) T
  refine T.F_pushes_to.ok sc_pushes_to (fun vs H Q E h => ?_) (fun cdv A outer s H vs Q E hr h => ?_)
  · obtain ⟨_, _, _, _, _, _, _, rfl, _⟩ := h
    rfl
  · obtain ⟨v, u, t, room, ls, y, w, rfl, hv, sh, hu, ht, riy, riw, q⟩ := h
    refine ⟨_, (pss_cons (ps_expr (pe_call (G_need_both.mono (by first | decide | omega)) hr (by rfl) T.g_need_both T.F_need_both.kp T.b_need_both .nil pass0 (pa_cons (pv 0) (pa_cons (pv 1) (pa_cons (pv 2) pa_nil)))))
      (pss_one (ps_ret (pe_call (G_shortest_row.mono (by first | decide | omega)) hr (by rfl) T.g_shortest_row T.F_shortest_row.kp T.b_shortest_row .nil pass0 (pa_cons (pv 0) (pa_cons (pv 1) (pa_cons (pv 2) pa_nil))))))), ?_⟩
    refine ⟨v, rfl, u, rfl, t, rfl, v, u, t, room, ls, _, _, rfl, hv, sh, hu, isStand_ok riy sh.lo, ht, isStand_ok riw sh.lo, fun H1 s1 => ?_⟩
    exact ⟨v, rfl, u, rfl, t, rfl, v, u, t, room, ls, y, w, rfl, Dpm s1 hv, sh.n8, Dpm s1 hu, Dpm s1 ht, riy, riw, fun c H2 r us s2 nc hc al bst => q c H2 r us (s1.trans s2) (s1.free nc) hc al bst⟩
end PS

namespace PS
open PySem PySem.Spec PyProof.Rows L2
variable {P : Program} {w : World} {K : PySem.W.Frag} {mg : Str → Option Value} {base : Heap}
def wiD (ls : List Int) : Option (Nat → Int) → PyData
  | none => .none
  | some w => tI (stL ls w)
def BenchAt (K : PySem.W.Frag) (C : Addr) (H : Hp) (x : Addr) (room : Int) (ls : List Int) (y lo hi : Nat → Int) (many : Int) (wi : Option (Nat → Int)) : Prop :=
  ∃ dx v1 v2 v3 v4 v6, H x = some (.ins C dx (benL v1 v2 v3 v4 (.int many) v6)) ∧ Dp K (Off x H) v1 (shD room ls) ∧ Dp K (Off x H) v2 (tI (stL ls y)) ∧ Dp K (Off x H) v3 (tI (stL ls lo)) ∧ Dp K (Off x H) v4 (tI (stL ls hi)) ∧ Dp K (Off x H) v6 (wiD ls wi)
theorem BenchAt.same {K : PySem.W.Frag} {C : Addr} {H H' : Hp} {x : Addr} {room : Int} {ls : List Int} {y lo hi : Nat → Int} {many : Int} {wi : Option (Nat → Int)} (b : BenchAt K C H x room ls y lo hi many wi) (s : Same H H') : BenchAt K C H' x room ls y lo hi many wi := by
  obtain ⟨dx, v1, v2, v3, v4, v6, h, h1, h2, h3, h4, h6⟩ := b
  have t := off_mono (k := x) s
  exact ⟨dx, v1, v2, v3, v4, v6, s _ _ h, Dpm t h1, Dpm t h2, Dpm t h3, Dpm t h4, Dpm t h6⟩
theorem wr {H H' : Hp} {x : Addr} {o : HO} (e : upd H x o = H') : H' x = some o ∧ Same (Off x H) (Off x H') := by
  subst e
  exact ⟨upd_same, offI_upd2 x H o⟩
theorem puD_dep (ls : List Int) (p : Push) : (puD ls p).depth ≤ 64 := by
  have := puD_depth ls p
  omega
/-! ### copied -/
def sp_copied (K : PySem.W.Frag) : Sp := fun vs H Q _ => ∃ v zs, vs = [v] ∧ Dp K H v (tI zs) ∧ zs.length ≤ 8 ∧ RD K H Q (tI zs)
theorem ok_copied (T : Tx K mg) : FnOk P w K mg base CX0 1 T.f_copied T.fd_copied ["numbers"] (sp_copied K) := by
  refine T.F_copied.ok sc_copied (fun vs H Q E h => ?_) (fun cdv A outer s H vs Q E hr h => ?_)
  · obtain ⟨_, _, rfl, _⟩ := h
    rfl
  · obtain ⟨v, zs, rfl, hv, n8, q⟩ := h
    obtain ⟨a, rfl, sa⟩ := dp_tI hv
    refine ⟨_, (pss_one (ps_ret (pe_callTy call_tuple_of (by rfl) T.n_tuple (by decide +kernel) (pa_cons (pe_callTy call_list_of (by rfl) T.n_list (by decide +kernel) (pa_cons (pv 0) pa_nil)) pa_nil)))), ?_⟩
    refine ⟨.ref a, rfl, a, _, rfl, .inr sa, fun l nl => ?_⟩
    have t1 := same_new (o := .lst (iV zs)) nl
    refine ⟨l, _, rfl, .inl ⟨.inl (.inl upd_same), fun t nt => ?_⟩⟩
    have t2 := same_new (o := .tup (iV zs)) nt
    exact q _ _ (t1.trans t2) (tI_dp (.inl (.inl upd_same)))
/-! ### a bench is made -/
def sp_Bench_init (K : PySem.W.Frag) (C : Addr) : Sp := fun vs H Q _ => ∃ (x dx : Addr) (v u : V) (room : Int) (ls : List Int) (y : Nat → Int), vs = [.ref x, v, u] ∧ H x = some (.ins C dx []) ∧ Dp K H v (shD room ls) ∧ ShOk room ls ∧ Dp K H u (tI (stL ls y)) ∧ Rise ls.length (room - ls.sum) y ∧
  ∀ H', Same (Off x H) (Off x H') → BenchAt K C H' x room ls y (fun _ => 0) (fun _ => room - ls.sum) 0 none → Q .non H'
theorem ok_Bench_init (T : Tx K mg) : FnOk P w K mg base CX0 8 T.f_Bench_init T.fd_Bench_init ["self", "shelf", "stand"] (sp_Bench_init K T.C_Bench) := by
  have G_need_stand := ok_need_stand (P := P) (w := w) (base := base) T
  have G_copied := ok_copied (P := P) (w := w) (base := base) T
  have G_leftmost := ok_leftmost (P := P) (w := w) (base := base) T
  have G_rightmost := ok_rightmost (P := P) (w := w) (base := base) T
  refine T.F_Bench_init.ok sc_Bench_init (fun vs H Q E h => ?_) (fun cdv A outer s H vs Q E hr h => ?_)
  · obtain ⟨_, _, _, _, _, _, _, rfl, _⟩ := h
    rfl
  · obtain ⟨x, dx, v, u, room, ls, y, rfl, hx, hv, sh, hu, ri, q⟩ := h
    refine ⟨_, (pss_cons (ps_expr (pe_call (G_need_stand.mono (by first | decide | omega)) hr (by rfl) T.g_need_stand T.F_need_stand.kp T.b_need_stand .nil pass0 (pa_cons (pv 1) (pa_cons (pv 2) pa_nil))))
      (pss_cons (ps_asg (pv 1) (pg_tup rfl (pgs_cons (pg_name (i := 3) sc_Bench_init.nd rfl (.inl rfl)) (pgs_cons (pg_name (i := 4) sc_Bench_init.nd rfl (.inl rfl)) pgs_nil))))
      (pss_cons (ps_fld (pv 0) (pe_tup (pa_cons (pv 3) (pa_cons (pe_call (G_copied.mono (by first | decide | omega)) hr (by rfl) T.g_copied T.F_copied.kp T.b_copied .nil pass0 (pa_cons (pv 4) pa_nil)) pa_nil))) rfl)
      (pss_cons (ps_fld (pv 0) (pe_call (G_copied.mono (by first | decide | omega)) hr (by rfl) T.g_copied T.F_copied.kp T.b_copied .nil pass0 (pa_cons (pv 2) pa_nil)) rfl)
      (pss_cons (ps_fld (pv 0) (pe_call (G_leftmost.mono (by first | decide | omega)) hr (by rfl) T.g_leftmost T.F_leftmost.kp T.b_leftmost .nil pass0 (pa_cons (pv 1) pa_nil)) rfl)
      (pss_cons (ps_fld (pv 0) (pe_call (G_rightmost.mono (by first | decide | omega)) hr (by rfl) T.g_rightmost T.F_rightmost.kp T.b_rightmost .nil pass0 (pa_cons (pv 1) pa_nil)) rfl)
      (pss_cons (ps_fld (pv 0) pe_int rfl)
      (pss_one (ps_fld (pv 0) pe_non rfl))))))))), ?_⟩
    have n8 := sh.n8
    refine ⟨v, rfl, u, rfl, v, u, room, ls, _, rfl, hv, sh, hu, isStand_ok ri sh.lo, fun H1 s1 => ?_⟩
    have hx1 := s1 _ _ hx
    have hv1 := dp_offI hx1 _ _ (Dpm s1 hv)
    have hu1 := dp_offI hx1 _ _ (Dpm s1 hu)
    have g1 : Same (Off x H) (Off x H1) := off_mono s1
    obtain ⟨a, b, rfl, sa, sb⟩ := dp_shelf (Dpm s1 hv)
    refine ⟨.ref a, rfl, a, _, rfl, sa, rfl, _, _, rfl, _, [], rfl, rfl, ?_⟩
    refine ⟨_, rfl, .ref b, rfl, .ref b, ls, rfl, tI_dp sb, n8, fun c H2 s2 hc => ⟨by show 2 ≤ sizeLine; decide, fun p np => ?_⟩⟩
    have t2 := s2.trans (same_new (o := .tup [.int room, c]) np)
    have hx2 := t2 _ _ hx1
    have hp2 : Dp K (upd H2 p (.tup [.int room, c])) (.ref p) (shD room ls) := .tup (.inl (.inl upd_same)) (.cons (.int _) (.cons (Dpm (same_new np) hc) .nil))
    generalize upd H2 p (.tup [.int room, c]) = H2' at *
    have hp2 := dp_offI hx2 _ _ hp2
    have g2 := g1.trans (off_mono (k := x) t2)
    have hv2 := Dpm (off_mono (k := x) t2) hv1
    have hu2 := Dpm (off_mono (k := x) t2) hu1
    refine ⟨_, rfl, x, T.C_Bench, dx, _, rfl, hx2, T.cl_Bench, T.na_Bench_shelf, (by show 0 < 1000; decide), ?_⟩
    generalize e3 : upd H2' x _ = H3
    obtain ⟨hx3, k3⟩ := wr e3
    have g3 := g2.trans k3
    have hp3 := Dpm k3 hp2
    have hv3 := Dpm k3 hv2
    have hu3 := Dpm k3 hu2
    refine ⟨u, rfl, u, _, rfl, Dpm (off_same x H3) hu3, by rw [stL_len]; exact n8, fun c4 H4 s4 hc4 => ?_⟩
    have hx4 := s4 _ _ hx3
    have hc4 := dp_offI hx4 _ _ hc4
    refine ⟨_, rfl, x, T.C_Bench, dx, _, rfl, hx4, T.cl_Bench, T.na_Bench_now, (by show 1 < 1000; decide), ?_⟩
    generalize e5 : upd H4 x _ = H5
    obtain ⟨hx5, k5⟩ := wr e5
    have m5 := (off_mono (k := x) s4).trans k5
    have g5 := g3.trans m5
    have hp5 := Dpm m5 hp3
    have hv5 := Dpm m5 hv3
    have hc5 := Dpm k5 hc4
    refine ⟨.ref a, rfl, .ref a, room, ls, rfl, Dpm (off_same x H5) hv5, n8, fun c6 H6 s6 hc6 => ?_⟩
    have hx6 := s6 _ _ hx5
    have hc6 := dp_offI hx6 _ _ hc6
    refine ⟨_, rfl, x, T.C_Bench, dx, _, rfl, hx6, T.cl_Bench, T.na_Bench_least, (by show 2 < 1000; decide), ?_⟩
    generalize e7 : upd H6 x _ = H7
    obtain ⟨hx7, k7⟩ := wr e7
    have m7 := (off_mono (k := x) s6).trans k7
    have g7 := g5.trans m7
    have hp7 := Dpm m7 hp5
    have hv7 := Dpm m7 hv5
    have hc7 := Dpm m7 hc5
    have hd7 := Dpm k7 hc6
    refine ⟨.ref a, rfl, .ref a, room, ls, rfl, Dpm (off_same x H7) hv7, n8, fun c8 H8 s8 hc8 => ?_⟩
    have hx8 := s8 _ _ hx7
    have hc8 := dp_offI hx8 _ _ hc8
    refine ⟨_, rfl, x, T.C_Bench, dx, _, rfl, hx8, T.cl_Bench, T.na_Bench_greatest, (by show 3 < 1000; decide), ?_⟩
    generalize e9 : upd H8 x _ = H9
    obtain ⟨hx9, k9⟩ := wr e9
    have m9 := (off_mono (k := x) s8).trans k9
    have g9 := g7.trans m9
    have hp9 := Dpm m9 hp7
    have hc9 := Dpm m9 hc7
    have hd9 := Dpm m9 hd7
    have he9 := Dpm k9 hc8
    refine ⟨_, rfl, x, T.C_Bench, dx, _, rfl, hx9, T.cl_Bench, T.na_Bench_many, (by show 4 < 1000; decide), ?_⟩
    generalize e10 : upd H9 x _ = H10
    obtain ⟨hx10, k10⟩ := wr e10
    refine ⟨_, rfl, x, T.C_Bench, dx, _, rfl, hx10, T.cl_Bench, T.na_Bench_wish, (by show 5 < 1000; decide), ?_⟩
    generalize e11 : upd H10 x _ = H11
    obtain ⟨hx11, k11⟩ := wr e11
    have m11 := k10.trans k11
    exact q H11 (g9.trans m11) ⟨dx, _, _, _, _, _, hx11, Dpm m11 hp9, Dpm m11 hc9, Dpm m11 hd9, Dpm m11 he9, .non⟩
/-! ### a push -/
def sp_Bench_push (K : PySem.W.Frag) (C : Addr) : Sp := fun vs H Q _ => ∃ (x : Addr) (u : V) (room : Int) (ls : List Int) (y lo hi : Nat → Int) (many : Int) (wi : Option (Nat → Int)) (p : Push), vs = [.ref x, u] ∧ BenchAt K C H x room ls y lo hi many wi ∧ ShOk room ls ∧ Dp K H u (puD ls p) ∧ PuOk ls.length (room - ls.sum) p ∧ Rise ls.length (room - ls.sum) y ∧ Rise ls.length (room - ls.sum) lo ∧ Rise ls.length (room - ls.sum) hi ∧
  ∀ H', Same (Off x H) (Off x H') → BenchAt K C H' x room ls (doP y p) (doP lo p) (doP hi p) (many + 1) wi → Q .non H'
theorem ok_Bench_push (T : Tx K mg) : FnOk P w K mg base CX0 5 T.f_Bench_push T.fd_Bench_push ["self", "thing"] (sp_Bench_push K T.C_Bench) := by
  have G_is_push := ok_is_push (P := P) (w := w) (base := base) T
  have G_pushed := ok_pushed (P := P) (w := w) (base := base) T
  refine T.F_Bench_push.ok sc_Bench_push (fun vs H Q E h => ?_) (fun cdv A outer s H vs Q E hr h => ?_)
  · obtain ⟨_, _, _, _, _, _, _, _, _, _, rfl, _⟩ := h
    rfl
  · obtain ⟨x, u, room, ls, y, lo, hi, many, wi, p, rfl, ⟨dx, v1, v2, v3, v4, v6, hx, h1, h2, h3, h4, h6⟩, sh, hu, pk, r2, r3, r4, q⟩ := h
    refine ⟨_, (pss_cons (ps_if (pt_not (pt_val (pe_call (G_is_push.mono (by first | decide | omega)) hr (by rfl) T.g_is_push T.F_is_push.kp T.b_is_push .nil pass0 (pa_cons (pe_fld (pv 0) rfl) (pa_cons (pv 1) pa_nil))))) (pss_one ps_never) pss_nil)
      (pss_cons (ps_fld (pv 0) (pe_call (G_pushed.mono (by first | decide | omega)) hr (by rfl) T.g_pushed T.F_pushed.kp T.b_pushed .nil pass0 (pa_cons (pe_fld (pv 0) rfl) (pa_cons (pe_fld (pv 0) rfl) (pa_cons (pv 1) pa_nil)))) rfl)
      (pss_cons (ps_fld (pv 0) (pe_call (G_pushed.mono (by first | decide | omega)) hr (by rfl) T.g_pushed T.F_pushed.kp T.b_pushed .nil pass0 (pa_cons (pe_fld (pv 0) rfl) (pa_cons (pe_fld (pv 0) rfl) (pa_cons (pv 1) pa_nil)))) rfl)
      (pss_cons (ps_fld (pv 0) (pe_call (G_pushed.mono (by first | decide | omega)) hr (by rfl) T.g_pushed T.F_pushed.kp T.b_pushed .nil pass0 (pa_cons (pe_fld (pv 0) rfl) (pa_cons (pe_fld (pv 0) rfl) (pa_cons (pv 1) pa_nil)))) rfl)
      (pss_one (ps_fldaug (pv 0) pe_int in_add)))))), ?_⟩
    have n8 := sh.n8
    have hu := dp_offI hx _ _ hu
    refine ⟨.ref x, rfl, x, T.C_Bench, dx, _, _, rfl, hx, T.cl_Bench, T.na_Bench_shelf, rfl, u, rfl, v1, u, room, ls, _, rfl, Dpm (off_same x H) h1, Dpm (off_same x H) hu, puD_dep ls p, fun H1 s1 => ⟨_, rfl, ?_⟩⟩
    rw [isPush_ok pk]
    refine iteF ?_
    have m1 := off_mono (k := x) s1
    have hx1 := s1 _ _ hx
    have h1 := Dpm m1 h1; have h2 := Dpm m1 h2; have h3 := Dpm m1 h3; have h4 := Dpm m1 h4; have h6 := Dpm m1 h6; have hu := Dpm m1 hu
    have o1 := off_same x H1
    refine ⟨.ref x, rfl, x, T.C_Bench, dx, _, _, rfl, hx1, T.cl_Bench, T.na_Bench_shelf, rfl, .ref x, rfl, x, T.C_Bench, dx, _, _, rfl, hx1, T.cl_Bench, T.na_Bench_now, rfl, u, rfl, v1, v2, u, room, ls, y, p, _, rfl, Dpm o1 h1, Dpm o1 h2, Dpm o1 hu, r2, n8, pk, fun c H2 s2 hc => ?_⟩
    have hx2 := s2 _ _ hx1
    have hc := dp_offI hx2 _ _ hc
    refine ⟨_, rfl, x, T.C_Bench, dx, _, rfl, hx2, T.cl_Bench, T.na_Bench_now, (by show 6 < 1000; decide), ?_⟩
    generalize e3 : upd H2 x _ = H3
    obtain ⟨hx3, k3⟩ := wr e3
    have m3 := (off_mono (k := x) s2).trans k3
    have hc := Dpm k3 hc
    have h1 := Dpm m3 h1; have h3 := Dpm m3 h3; have h4 := Dpm m3 h4; have h6 := Dpm m3 h6; have hu := Dpm m3 hu
    have o3 := off_same x H3
    refine ⟨.ref x, rfl, x, T.C_Bench, dx, _, _, rfl, hx3, T.cl_Bench, T.na_Bench_shelf, rfl, .ref x, rfl, x, T.C_Bench, dx, _, _, rfl, hx3, T.cl_Bench, T.na_Bench_least, rfl, u, rfl, v1, v3, u, room, ls, lo, p, _, rfl, Dpm o3 h1, Dpm o3 h3, Dpm o3 hu, r3, n8, pk, fun d H4 s4 hd => ?_⟩
    have hx4 := s4 _ _ hx3
    have hd := dp_offI hx4 _ _ hd
    refine ⟨_, rfl, x, T.C_Bench, dx, _, rfl, hx4, T.cl_Bench, T.na_Bench_least, (by show 6 < 1000; decide), ?_⟩
    generalize e5 : upd H4 x _ = H5
    obtain ⟨hx5, k5⟩ := wr e5
    have m5 := (off_mono (k := x) s4).trans k5
    have hc := Dpm m5 hc
    have hd := Dpm k5 hd
    have h1 := Dpm m5 h1; have h4 := Dpm m5 h4; have h6 := Dpm m5 h6; have hu := Dpm m5 hu
    have o5 := off_same x H5
    refine ⟨.ref x, rfl, x, T.C_Bench, dx, _, _, rfl, hx5, T.cl_Bench, T.na_Bench_shelf, rfl, .ref x, rfl, x, T.C_Bench, dx, _, _, rfl, hx5, T.cl_Bench, T.na_Bench_greatest, rfl, u, rfl, v1, v4, u, room, ls, hi, p, _, rfl, Dpm o5 h1, Dpm o5 h4, Dpm o5 hu, r4, n8, pk, fun e H6 s6 he => ?_⟩
    have hx6 := s6 _ _ hx5
    have he := dp_offI hx6 _ _ he
    refine ⟨_, rfl, x, T.C_Bench, dx, _, rfl, hx6, T.cl_Bench, T.na_Bench_greatest, (by show 6 < 1000; decide), ?_⟩
    generalize e7 : upd H6 x _ = H7
    obtain ⟨hx7, k7⟩ := wr e7
    have m7 := (off_mono (k := x) s6).trans k7
    have he := Dpm k7 he
    have h1 := Dpm m7 h1; have h6 := Dpm m7 h6; have hc := Dpm m7 hc; have hd := Dpm m7 hd
    refine ⟨.ref x, rfl, x, T.C_Bench, dx, _, _, rfl, hx7, T.cl_Bench, T.na_Bench_many, rfl, _, _, rfl, rfl, dx, _, hx7, (by show 6 < 1000; decide), ?_⟩
    generalize e8 : upd H7 x _ = H8
    obtain ⟨hx8, k8⟩ := wr e8
    exact q H8 ((((m1.trans m3).trans m5).trans m7).trans k8) ⟨dx, _, _, _, _, _, hx8, Dpm k8 h1, Dpm k8 hc, Dpm k8 hd, Dpm k8 he, Dpm k8 h6⟩
/-! ### the wish -/
def sp_Bench_set_wish (K : PySem.W.Frag) (C : Addr) : Sp := fun vs H Q _ => ∃ (x : Addr) (u : V) (room : Int) (ls : List Int) (y lo hi : Nat → Int) (many : Int) (wi : Option (Nat → Int)) (t : Nat → Int), vs = [.ref x, u] ∧ BenchAt K C H x room ls y lo hi many wi ∧ ShOk room ls ∧ Dp K H u (tI (stL ls t)) ∧ Rise ls.length (room - ls.sum) t ∧
  ∀ H', Same (Off x H) (Off x H') → BenchAt K C H' x room ls y lo hi many (some t) → Q .non H'
theorem ok_Bench_set_wish (T : Tx K mg) : FnOk P w K mg base CX0 8 T.f_Bench_set_wish T.fd_Bench_set_wish ["self", "wish"] (sp_Bench_set_wish K T.C_Bench) := by
  have G_need_stand := ok_need_stand (P := P) (w := w) (base := base) T
  have G_copied := ok_copied (P := P) (w := w) (base := base) T
  refine T.F_Bench_set_wish.ok sc_Bench_set_wish (fun vs H Q E h => ?_) (fun cdv A outer s H vs Q E hr h => ?_)
  · obtain ⟨_, _, _, _, _, _, _, _, _, _, rfl, _⟩ := h
    rfl
  · obtain ⟨x, u, room, ls, y, lo, hi, many, wi, t, rfl, ⟨dx, v1, v2, v3, v4, v6, hx, h1, h2, h3, h4, h6⟩, sh, hu, rt, q⟩ := h
    refine ⟨_, (pss_cons (ps_expr (pe_call (G_need_stand.mono (by first | decide | omega)) hr (by rfl) T.g_need_stand T.F_need_stand.kp T.b_need_stand .nil pass0 (pa_cons (pe_fld (pv 0) rfl) (pa_cons (pv 1) pa_nil))))
      (pss_one (ps_fld (pv 0) (pe_call (G_copied.mono (by first | decide | omega)) hr (by rfl) T.g_copied T.F_copied.kp T.b_copied .nil pass0 (pa_cons (pv 1) pa_nil)) rfl))), ?_⟩
    have n8 := sh.n8
    have hu := dp_offI hx _ _ hu
    have o0 := off_same x H
    refine ⟨.ref x, rfl, x, T.C_Bench, dx, _, _, rfl, hx, T.cl_Bench, T.na_Bench_shelf, rfl, u, rfl, v1, u, room, ls, _, rfl, Dpm o0 h1, sh, Dpm o0 hu, isStand_ok rt sh.lo, fun H1 s1 => ?_⟩
    have m1 := off_mono (k := x) s1
    have hx1 := s1 _ _ hx
    refine ⟨u, rfl, u, _, rfl, Dpm s1 (Dpm o0 hu), by rw [stL_len]; exact n8, fun c H2 s2 hc => ?_⟩
    have hx2 := s2 _ _ hx1
    have hc := dp_offI hx2 _ _ hc
    refine ⟨_, rfl, x, T.C_Bench, dx, _, rfl, hx2, T.cl_Bench, T.na_Bench_wish, (by show 6 < 1000; decide), ?_⟩
    generalize e3 : upd H2 x _ = H3
    obtain ⟨hx3, k3⟩ := wr e3
    have m3 := (m1.trans (off_mono (k := x) s2)).trans k3
    exact q H3 m3 ⟨dx, _, _, _, _, _, hx3, Dpm m3 h1, Dpm m3 h2, Dpm m3 h3, Dpm m3 h4, Dpm k3 hc⟩
/-! ### what a bench tells -/
def sp_Bench_stand (K : PySem.W.Frag) (C : Addr) : Sp := fun vs H Q _ => ∃ (x : Addr) (room : Int) (ls : List Int) (y lo hi : Nat → Int) (many : Int) (wi : Option (Nat → Int)), vs = [.ref x] ∧ BenchAt K C H x room ls y lo hi many wi ∧ RD K H Q (tI (stL ls y))
theorem ok_Bench_stand (T : Tx K mg) : FnOk P w K mg base CX0 1 T.f_Bench_stand T.fd_Bench_stand ["self"] (sp_Bench_stand K T.C_Bench) := by
  refine T.F_Bench_stand.ok sc_Bench_stand (fun vs H Q E h => ?_) (fun cdv A outer s H vs Q E hr h => ?_)
  · obtain ⟨_, _, _, _, _, _, _, _, rfl, _⟩ := h
    rfl
  · obtain ⟨x, room, ls, y, lo, hi, many, wi, rfl, ⟨dx, v1, v2, v3, v4, v6, hx, h1, h2, h3, h4, h6⟩, q⟩ := h
    refine ⟨_, (pss_one (ps_ret (pe_fld (pv 0) rfl))), ?_⟩
    exact ⟨.ref x, rfl, x, T.C_Bench, dx, _, _, rfl, hx, T.cl_Bench, T.na_Bench_now, rfl, q _ _ (Same.refl _) (Dpm (off_same x H) h2)⟩
def sp_Bench_doing (K : PySem.W.Frag) (C : Addr) : Sp := fun vs H Q _ => ∃ (x : Addr) (room : Int) (ls : List Int) (y lo hi : Nat → Int) (many : Int) (wi : Option (Nat → Int)), vs = [.ref x] ∧ BenchAt K C H x room ls y lo hi many wi ∧ RD K H Q (dgD ls lo hi)
theorem ok_Bench_doing (T : Tx K mg) : FnOk P w K mg base CX0 1 T.f_Bench_doing T.fd_Bench_doing ["self"] (sp_Bench_doing K T.C_Bench) := by
  refine T.F_Bench_doing.ok sc_Bench_doing (fun vs H Q E h => ?_) (fun cdv A outer s H vs Q E hr h => ?_)
  · obtain ⟨_, _, _, _, _, _, _, _, rfl, _⟩ := h
    rfl
  · obtain ⟨x, room, ls, y, lo, hi, many, wi, rfl, ⟨dx, v1, v2, v3, v4, v6, hx, h1, h2, h3, h4, h6⟩, q⟩ := h
    refine ⟨_, (pss_one (ps_ret (pe_tup (pa_cons (pe_fld (pv 0) rfl) (pa_cons (pe_fld (pv 0) rfl) pa_nil))))), ?_⟩
    refine ⟨.ref x, rfl, x, T.C_Bench, dx, _, _, rfl, hx, T.cl_Bench, T.na_Bench_least, rfl, .ref x, rfl, x, T.C_Bench, dx, _, _, rfl, hx, T.cl_Bench, T.na_Bench_greatest, rfl, by show 2 ≤ sizeLine; decide, fun z nz => ?_⟩
    have t := (off_same x H).trans (same_new (o := .tup [v3, v4]) nz)
    exact q _ _ (same_new nz) (.tup (.inl (.inl upd_same)) (.cons (Dpm t h3) (.cons (Dpm t h4) .nil)))
def sp_Bench_pushes (K : PySem.W.Frag) (C : Addr) : Sp := fun vs H Q _ => ∃ (x : Addr) (room : Int) (ls : List Int) (y lo hi : Nat → Int) (many : Int) (wi : Option (Nat → Int)), vs = [.ref x] ∧ BenchAt K C H x room ls y lo hi many wi ∧ Q (.int many) H
theorem ok_Bench_pushes (T : Tx K mg) : FnOk P w K mg base CX0 1 T.f_Bench_pushes T.fd_Bench_pushes ["self"] (sp_Bench_pushes K T.C_Bench) := by
  refine T.F_Bench_pushes.ok sc_Bench_pushes (fun vs H Q E h => ?_) (fun cdv A outer s H vs Q E hr h => ?_)
  · obtain ⟨_, _, _, _, _, _, _, _, rfl, _⟩ := h
    rfl
  · obtain ⟨x, room, ls, y, lo, hi, many, wi, rfl, ⟨dx, v1, v2, v3, v4, v6, hx, h1, h2, h3, h4, h6⟩, q⟩ := h
    refine ⟨_, (pss_one (ps_ret (pe_fld (pv 0) rfl))), ?_⟩
    exact ⟨.ref x, rfl, x, T.C_Bench, dx, _, _, rfl, hx, T.cl_Bench, T.na_Bench_many, rfl, q⟩
def sp_Bench_fewest (K : PySem.W.Frag) (C : Addr) : Sp := fun vs H Q _ => ∃ (x : Addr) (room : Int) (ls : List Int) (y lo hi : Nat → Int) (many : Int) (t : Nat → Int), vs = [.ref x] ∧ BenchAt K C H x room ls y lo hi many (some t) ∧ ShOk room ls ∧ Rise ls.length (room - ls.sum) y ∧ Rise ls.length (room - ls.sum) t ∧
  ∀ H' r, Same H H' → Best ls.length (room - ls.sum) y t r → Q (.int (r.length : Nat)) H'
theorem ok_Bench_fewest (T : Tx K mg) : FnOk P w K mg base CX0 6 T.f_Bench_fewest T.fd_Bench_fewest ["self"] (sp_Bench_fewest K T.C_Bench) := by
  have G_shortest_row := ok_shortest_row (P := P) (w := w) (base := base) T
  refine T.F_Bench_fewest.ok sc_Bench_fewest (fun vs H Q E h => ?_) (fun cdv A outer s H vs Q E hr h => ?_)
  · obtain ⟨_, _, _, _, _, _, _, _, rfl, _⟩ := h
    rfl
  · obtain ⟨x, room, ls, y, lo, hi, many, t, rfl, ⟨dx, v1, v2, v3, v4, v6, hx, h1, h2, h3, h4, h6⟩, sh, ry, rt, q⟩ := h
    obtain ⟨b6, rfl, s6⟩ := dp_tI (show Dp K (Off x H) v6 (tI (stL ls t)) from h6)
    refine ⟨_, (pss_cons (ps_if (pt_cmpR op_isN (pe_fld (pv 0) rfl) pe_non (nomark _)) (pss_one ps_never) pss_nil)
      (pss_one (ps_ret (pe_callB call_len_seq (by rfl) T.n_len (by decide +kernel) (pa_cons (pe_call (G_shortest_row.mono (by first | decide | omega)) hr (by rfl) T.g_shortest_row T.F_shortest_row.kp T.b_shortest_row .nil pass0 (pa_cons (pe_fld (pv 0) rfl) (pa_cons (pe_fld (pv 0) rfl) (pa_cons (pe_fld (pv 0) rfl) pa_nil)))) pa_nil))))), ?_⟩
    have o := off_same x H
    refine ⟨.ref x, rfl, x, T.C_Bench, dx, _, _, rfl, hx, T.cl_Bench, T.na_Bench_wish, rfl, rfl, _, rfl, iteF ?_⟩
    refine ⟨.ref x, rfl, x, T.C_Bench, dx, _, _, rfl, hx, T.cl_Bench, T.na_Bench_shelf, rfl, .ref x, rfl, x, T.C_Bench, dx, _, _, rfl, hx, T.cl_Bench, T.na_Bench_now, rfl, .ref x, rfl, x, T.C_Bench, dx, _, _, rfl, hx, T.cl_Bench, T.na_Bench_wish, rfl, v1, v2, .ref b6, room, ls, y, t, rfl, Dpm o h1, sh.n8, Dpm o h2, Dpm o h6, ry, rt, fun c H2 r us s2 nc hc al bst => ?_⟩
    have := dpAll_len al
    rw [List.length_map] at this
    refine ⟨c, us, rfl, .inl (.inl (.inl hc)), ?_⟩
    rw [this]
    exact q H2 r s2 bst
end PS

namespace PS
open PySem PySem.Spec PyProof.Rows L2
variable {P : Program} {w : World} {K : PySem.W.Frag} {mg : Str → Option Value} {base : Heap}
/-! ### the deck -/
def Dk (k : Addr) (H : Hp) (n : Nat) : Prop := ∃ a b c : Int, H k = some (.lst [.int a, .int b, .int c]) ∧ 0 ≤ b ∧ b < 2147483579 ∧ 0 ≤ c ∧ c + (n : Int) ≤ 1073741824
theorem Dk.le {k : Addr} {H : Hp} {n m : Nat} (h : Dk k H n) (e : m ≤ n) : Dk k H m := by
  obtain ⟨a, b, c, h1, h2, h3, h4, h5⟩ := h
  exact ⟨a, b, c, h1, h2, h3, h4, by omega⟩
theorem Dk.lst {k : Addr} {H : Hp} {n : Nat} (h : Dk k H n) : ∃ l, H k = some (.lst l) := by
  obtain ⟨a, b, c, h1, _⟩ := h
  exact ⟨_, h1⟩
theorem Dk.same {k : Addr} {H H' : Hp} {n : Nat} (h : Dk k H n) (s : Same H H') : Dk k H' n := by
  obtain ⟨a, b, c, h1, h2⟩ := h
  exact ⟨a, b, c, s _ _ h1, h2⟩
theorem Dk.ne {k : Addr} {H : Hp} {n : Nat} (h : Dk k H n) {p : Addr} (np : H p = none) : p ≠ k := by
  obtain ⟨a, b, c, h1, _⟩ := h
  exact (ne_of_none h1 np).symm
theorem fmod_in {a b : Int} (h : 0 < b) : 0 ≤ a.fmod b ∧ a.fmod b < b := ⟨Int.fmod_nonneg_of_pos a h, Int.fmod_lt_of_pos a h⟩
def sp_deck (K : PySem.W.Frag) : Sp := fun vs H Q _ => ∃ c t : Int, vs = [.int c, .int t] ∧ 0 ≤ t ∧ t ≤ 1000 ∧ ∀ p H', Same H H' → H p = none → Dk p H' 1000000 → Q (.ref p) H'
theorem ok_law_deck (T : Tx K mg) : FnOk P w K mg base CX0 1 T.f_law_deck T.fd_law_deck ["cell", "turn"] (sp_deck K) := by
  refine T.F_law_deck.ok sc_law_deck (fun vs H Q E h => ?_) (fun cdv A outer s H vs Q E hr h => ?_)
  · obtain ⟨c, t, rfl, _⟩ := h
    rfl
  · obtain ⟨c, t, rfl, t0, t1, q⟩ := h
    refine ⟨_, (pss_cons (ps_if (pt_cmpR op_ge (pv 0) (pe_op op_pow pe_int pe_int) (nomark _)) (pss_one (ps_ret (pe_lst (pa_cons (pe_op op_sub (pv 0) (pe_op op_pow pe_int pe_int)) (pa_cons (pe_op op_modN (pv 0) pe_int) (pa_cons (pv 1) pa_nil)))))) pss_nil)
      (pss_one (ps_ret (pe_lst (pa_cons pe_int (pa_cons (pe_op op_modN (pv 0) pe_int) (pa_cons (pv 1) pa_nil))))))), ?_⟩
    have m := fmod_in (a := c) (b := 2147483579) (by decide)
    have fin : ∀ (z : Int) (p : Addr), H p = none → Q (.ref p) (upd H p (.lst [.int z, .int (c.fmod 2147483579), .int t])) := fun z p np =>
      q p _ (same_new np) np ⟨z, _, t, upd_same, m.1, m.2, t0, by omega⟩
    refine ⟨_, rfl, _, _, rfl, rfl, ⟨by decide, by decide, by decide⟩, _, _, rfl, rfl, _, rfl, ite2 (fun _ => ?_) (fun _ => ?_)⟩
    · exact ⟨_, rfl, _, _, rfl, rfl, ⟨by decide, by decide, by decide⟩, _, _, rfl, rfl, _, rfl, _, _, rfl, rfl, (show (2147483579 : Int) ≠ 0 by decide), _, rfl, by show 3 ≤ sizeLine; decide, fun p np => fin _ p np⟩
    · exact ⟨_, rfl, _, _, rfl, rfl, (show (2147483579 : Int) ≠ 0 by decide), _, rfl, by show 3 ≤ sizeLine; decide, fun p np => fin _ p np⟩
def sp_pick (K : PySem.W.Frag) : Sp := fun vs H Q _ => ∃ (k : Addr) (m : Int) (n : Nat), vs = [.ref k, .int m] ∧ 0 < m ∧ m < 1000000 ∧ Dk k H (n + 1) ∧ ∀ r H', 0 ≤ r → r < m → Dk k H' n → Same (Off k H) (Off k H') → Q (.int r) H'
theorem off_upd {k : Addr} {H : Hp} {o : HO} : Off k (upd H k o) = Off k H := by
  funext b
  unfold Off
  split
  · rfl
  · rename_i n
    rw [upd_ne n]
theorem ok_law_pick (T : Tx K mg) : FnOk P w K mg base CX0 1 T.f_law_pick T.fd_law_pick ["deck", "size"] (sp_pick K) := by
  refine T.F_law_pick.ok sc_law_pick (fun vs H Q E h => ?_) (fun cdv A outer s H vs Q E hr h => ?_)
  · obtain ⟨k, m, n, rfl, _⟩ := h
    rfl
  · obtain ⟨k, m, n, rfl, m0, m1, ⟨a, b, c, hk, b0, b1, c0, c1⟩, q⟩ := h
    refine ⟨_, (pss_cons (ps_if (pt_cmpR op_gt (pe_ix ix_list (pv 0) pe_int (fun _ _ => rfl)) pe_int (nomark _)) (pss_cons (ps_set (i := 2) sc_law_pick.nd rfl (.inl rfl) (pe_op op_modN (pe_ix ix_list (pv 0) pe_int (fun _ _ => rfl)) (pv 1)))
      (pss_cons (ps_asg (pe_op op_fdivN (pe_ix ix_list (pv 0) pe_int (fun _ _ => rfl)) (pv 1)) (pg_sub (pv 0) pe_int set_list))
      (pss_one (ps_ret (pv 2))))) pss_nil)
      (pss_cons (ps_asg (pe_op op_add (pe_ix ix_list (pv 0) pe_int (fun _ _ => rfl)) pe_int) (pg_sub (pv 0) pe_int set_list))
      (pss_cons (ps_set (i := 3) sc_law_pick.nd rfl (.inl rfl) (pe_op op_modN (pe_op op_pow (pe_op op_add (pe_ix ix_list (pv 0) pe_int (fun _ _ => rfl)) (pe_op op_mul pe_int (pe_ix ix_list (pv 0) pe_int (fun _ _ => rfl)))) pe_int) pe_int))
      (pss_cons (ps_set (i := 2) sc_law_pick.nd rfl (.inl rfl) (pe_op op_fdivN (pe_op op_modN (pe_op op_pow (pe_op op_add (pv 3) (pe_op op_mul pe_int (pe_ix ix_list (pv 0) pe_int (fun _ _ => rfl)))) pe_int) pe_int) pe_int))
      (pss_one (ps_ret (pe_op op_modN (pv 2) (pv 1)))))))), ?_⟩
    refine ⟨.ref k, rfl, k, _, 0, _, rfl, rfl, .inl (.inl hk), atI_nat (j := 0) rfl, _, _, rfl, rfl, _, rfl, ite2 (fun _ => ?_) (fun _ => ?_)⟩
    · refine ⟨.ref k, rfl, k, _, 0, _, rfl, rfl, .inl (.inl hk), atI_nat (j := 0) rfl, _, rfl, _, _, rfl, rfl, by omega, ?_⟩
      refine ⟨.ref k, rfl, k, _, 0, _, rfl, rfl, .inl (.inl hk), atI_nat (j := 0) rfl, _, rfl, _, _, rfl, rfl, ⟨by omega, by omega⟩, ?_⟩
      refine ⟨.ref k, rfl, k, _, 0, 0, rfl, rfl, hk, rfl, ?_⟩
      refine ⟨_, rfl, ?_⟩
      have mm := fmod_in (a := a) m0
      exact q _ _ mm.1 mm.2 ⟨_, b, c, upd_same, b0, b1, c0, by omega⟩ (by rw [off_upd]; exact Same.refl _)
    · refine ⟨.ref k, rfl, k, _, 2, _, rfl, rfl, .inl (.inl hk), atI_nat (j := 2) rfl, _, _, rfl, rfl, ?_⟩
      refine ⟨.ref k, rfl, k, _, 2, 2, rfl, rfl, hk, rfl, ?_⟩
      have hk1 : upd H k (.lst ([V.int a, V.int b, V.int c].set 2 (V.int (c + 1)))) k = some (.lst [.int a, .int b, .int (c + 1)]) := upd_same
      refine ⟨.ref k, rfl, k, _, 1, _, rfl, rfl, .inl (.inl hk1), atI_nat (j := 1) rfl, .ref k, rfl, k, _, 2, _, rfl, rfl, .inl (.inl hk1), atI_nat (j := 2) rfl, _, _, rfl, rfl, .inl ⟨by decide, by decide⟩, _, _, rfl, rfl, _, _, rfl, rfl, ⟨by decide, by decide, by omega⟩, _, _, rfl, rfl, (show (2147483647 : Int) ≠ 0 by decide), ?_⟩
      have m2 := fmod_in (a := (b + 15485867 * (c + 1)) ^ (5 : Int).toNat) (b := 2147483647) (by decide)
      refine ⟨_, rfl, .ref k, rfl, k, _, 2, _, rfl, rfl, .inl (.inl hk1), atI_nat (j := 2) rfl, _, _, rfl, rfl, .inl ⟨by decide, by decide⟩, _, _, rfl, rfl, _, _, rfl, rfl, ⟨by decide, by decide, by omega⟩, _, _, rfl, rfl, (show (2147483629 : Int) ≠ 0 by decide), _, _, rfl, rfl, (show (32 : Int) ≠ 0 ∧ (32 : Int).natAbs < 1073741824 by decide), ?_⟩
      refine ⟨_, rfl, _, rfl, _, _, rfl, rfl, by omega, ?_⟩
      have mm := fmod_in (a := (((((b + 15485867 * (c + 1)) ^ (5 : Int).toNat).fmod 2147483647 + 7919 * (c + 1)) ^ (3 : Int).toNat).fmod 2147483629).fdiv 32) m0
      exact q _ _ mm.1 mm.2 ⟨a, b, c + 1, hk1, b0, b1, by omega, by omega⟩ (by rw [off_upd]; exact Same.refl _)
def sp_one (K : PySem.W.Frag) : Sp := fun vs H Q _ => ∃ (k a : Addr) (xs : List V) (n : Nat), vs = [.ref k, .ref a] ∧ SqL K (Off k H) a xs ∧ 0 < xs.length ∧ xs.length < 1000 ∧ Dk k H (n + 1) ∧ ∀ x H', x ∈ xs → Dk k H' n → Same (Off k H) (Off k H') → Q x H'
theorem ok_law_one (T : Tx K mg) : FnOk P w K mg base CX0 2 T.f_law_one T.fd_law_one ["deck", "some"] (sp_one K) := by
  have G_law_pick := ok_law_pick (P := P) (w := w) (base := base) T
  refine T.F_law_one.ok sc_law_one (fun vs H Q E h => ?_) (fun cdv A outer s H vs Q E hr h => ?_)
  · obtain ⟨k, a, xs, n, rfl, _⟩ := h
    rfl
  · obtain ⟨k, a, xs, n, rfl, hs, l0, l1, dk, q⟩ := h
    refine ⟨_, (pss_one (ps_ret (pe_ix ix_list (pv 1) (pe_call (G_law_pick.mono (by first | decide | omega)) hr (by rfl) T.g_law_pick T.F_law_pick.kp T.b_law_pick .nil pass0 (pa_cons (pv 0) (pa_cons (pe_callB call_len_seq (by rfl) T.n_len (by decide +kernel) (pa_cons (pv 1) pa_nil)) pa_nil))) (fun _ _ => rfl)))), ?_⟩
    refine ⟨.ref a, rfl, .ref k, rfl, .ref a, rfl, a, xs, rfl, .inl ((off_same k H).seq hs), k, _, n, rfl, by omega, by omega, dk, fun r H' r0 r1 dk' sm => ?_⟩
    have hr' : r.toNat < xs.length := by omega
    have hx : xs[r.toNat]? = some xs[r.toNat] := List.getElem?_eq_getElem hr'
    exact ⟨a, xs, r, _, rfl, rfl, ((off_same k H').seq (sm.seq hs)), at_of (j := r.toNat) (by omega) hx, q _ _ (List.mem_of_getElem? hx) dk' sm⟩
/-! ### sorts, sameness -/
theorem ok_law_whole (T : Tx K mg) : FnOk P w K mg base CX0 1 T.f_law_whole T.fd_law_whole ["thing"] (fun vs H Q _ => ∃ v d, vs = [v] ∧ Dp K H v d ∧ Q (.bl (isW d)) H) := by
  refine T.F_law_whole.ok sc_law_whole (fun vs H Q E h => ?_) (fun cdv A outer s H vs Q E hr h => ?_)
  · obtain ⟨v, d, rfl, _⟩ := h
    rfl
  · obtain ⟨v, d, rfl, hd, q⟩ := h
    refine ⟨_, (pss_one (ps_ret (pe_and (pe_callB call_isD (by rfl) T.n_isinstance (by decide +kernel) (pa_cons (pv 0) (pa_cons (pe_bltn (v := .ty "int") (by rfl) T.n_int (by decide +kernel) rfl) pa_nil))) (pe_one (pe_not (pe_callB call_isD (by rfl) T.n_isinstance (by decide +kernel) (pa_cons (pv 0) (pa_cons (pe_bltn (v := .ty "bool") (by rfl) T.n_bool (by decide +kernel) rfl) pa_nil)))))))), ?_⟩
    refine ⟨v, rfl, v, _, d, rfl, hd, kInt d, _, rfl, ?_⟩
    rw [isA_int]
    cases hd with
    | bl b => exact iteT ⟨_, rfl, _, _, _, rfl, .bl b, kBool _, _, rfl, by rw [isA_bool]; exact q⟩
    | int b => exact iteT ⟨_, rfl, _, _, _, rfl, .int b, kBool _, _, rfl, by rw [isA_bool]; exact q⟩
    | _ => exact iteF q
def sortD : PyData → Int
  | .bool _ => 1 | .int _ => 2 | .str _ => 3 | .list _ => 4 | .tuple _ => 5 | _ => 6
def sp_sort (K : PySem.W.Frag) : Sp := fun vs H Q _ => ∃ v d, vs = [v] ∧ Dp K H v d ∧ Q (.int (sortD d)) H
theorem ok_law_sort (T : Tx K mg) : FnOk P w K mg base CX0 1 T.f_law_sort T.fd_law_sort ["thing"] (sp_sort K) := by
  refine T.F_law_sort.ok sc_law_sort (fun vs H Q E h => ?_) (fun cdv A outer s H vs Q E hr h => ?_)
  · obtain ⟨v, d, rfl, _⟩ := h
    rfl
  · obtain ⟨v, d, rfl, hd, q⟩ := h
    refine ⟨_, (pss_cons (ps_if (pt_val (pe_callB call_isD (by rfl) T.n_isinstance (by decide +kernel) (pa_cons (pv 0) (pa_cons (pe_bltn (v := .ty "bool") (by rfl) T.n_bool (by decide +kernel) rfl) pa_nil)))) (pss_one (ps_ret pe_int)) pss_nil)
      (pss_cons (ps_if (pt_val (pe_callB call_isD (by rfl) T.n_isinstance (by decide +kernel) (pa_cons (pv 0) (pa_cons (pe_bltn (v := .ty "int") (by rfl) T.n_int (by decide +kernel) rfl) pa_nil)))) (pss_one (ps_ret pe_int)) pss_nil)
      (pss_cons (ps_if (pt_val (pe_callB call_isD (by rfl) T.n_isinstance (by decide +kernel) (pa_cons (pv 0) (pa_cons (pe_bltn (v := .ty "str") (by rfl) T.n_str (by decide +kernel) rfl) pa_nil)))) (pss_one (ps_ret pe_int)) pss_nil)
      (pss_cons (ps_if (pt_val (pe_callB call_isD (by rfl) T.n_isinstance (by decide +kernel) (pa_cons (pv 0) (pa_cons (pe_bltn (v := .ty "list") (by rfl) T.n_list (by decide +kernel) rfl) pa_nil)))) (pss_one (ps_ret pe_int)) pss_nil)
      (pss_one (ps_ret (pe_ifExp (pt_val (pe_callB call_isD (by rfl) T.n_isinstance (by decide +kernel) (pa_cons (pv 0) (pa_cons (pe_bltn (v := .ty "tuple") (by rfl) T.n_tuple (by decide +kernel) rfl) pa_nil)))) pe_int pe_int))))))), ?_⟩
    refine ⟨v, rfl, v, _, d, rfl, hd, kBool d, _, rfl, ?_⟩
    rw [isA_bool]
    refine ite2 (fun e => ?_) (fun e => ⟨v, rfl, v, _, d, rfl, hd, kInt d, _, rfl, ?_⟩)
    · cases d <;> simp [isB] at e <;> exact q
    rw [isA_int]
    refine ite2 (fun e2 => ?_) (fun e2 => ⟨v, rfl, v, _, d, rfl, hd, kStr d, _, rfl, ?_⟩)
    · cases d <;> simp [isB, isIB] at e e2 <;> exact q
    rw [isA_str]
    refine ite2 (fun e3 => ?_) (fun e3 => ⟨v, rfl, v, _, d, rfl, hd, kList d, _, rfl, ?_⟩)
    · cases d <;> simp [isS] at e3 <;> exact q
    rw [isA_list]
    refine ite2 (fun e4 => ?_) (fun e4 => ⟨v, rfl, v, _, d, rfl, hd, kTuple d, _, rfl, ?_⟩)
    · cases d <;> simp [isL] at e4 <;> exact q
    rw [isA_tuple]
    refine ite2 (fun e5 => ?_) (fun e5 => ?_)
    · cases d <;> simp [isT] at e5 <;> exact q
    · cases d <;> simp [isB, isIB, isS, isL, isT] at e e2 e3 e4 e5 <;> exact q
def sp_same (K : PySem.W.Frag) (n : Nat) : Sp := fun vs H Q _ => ∃ v u d, vs = [v, u] ∧ Dp K H v d ∧ Dp K H u d ∧ d.depth < n ∧ RB H Q true
theorem same_step (T : Tx K mg) {n k : Nat} (hk : 1 ≤ k) (G_law_same : FnOk P w K mg base CX0 k T.f_law_same T.fd_law_same ["told", "due"] (sp_same K n)) : FnOk P w K mg base CX0 (k + 1) T.f_law_same T.fd_law_same ["told", "due"] (sp_same K (n + 1)) := by
  have G_law_sort := ok_law_sort (P := P) (w := w) (base := base) T
  refine T.F_law_same.ok sc_law_same (fun vs H Q E h => ?_) (fun cdv A outer s H vs Q E hr h => ?_)
  · obtain ⟨v, u, d, rfl, _⟩ := h
    rfl
  · obtain ⟨v, u, d, rfl, hv, hu, hd, q⟩ := h
    refine ⟨_, (pss_cons (ps_if (pt_cmpR op_ne (pe_call (G_law_sort.mono (by first | decide | omega)) hr (by rfl) T.g_law_sort T.F_law_sort.kp T.b_law_sort .nil pass0 (pa_cons (pv 0) pa_nil)) (pe_call (G_law_sort.mono (by first | decide | omega)) hr (by rfl) T.g_law_sort T.F_law_sort.kp T.b_law_sort .nil pass0 (pa_cons (pv 1) pa_nil)) (nomark _)) (pss_one (ps_ret pe_bl)) pss_nil)
      (pss_cons (ps_if (PW.pt (pw_and (pt_cmpR op_gt (pe_call (G_law_sort.mono (by first | decide | omega)) hr (by rfl) T.g_law_sort T.F_law_sort.kp T.b_law_sort .nil pass0 (pa_cons (pv 0) pa_nil)) pe_int (nomark _)) (pw_and1 (pt_cmpR op_lt (pe_call (G_law_sort.mono (by first | decide | omega)) hr (by rfl) T.g_law_sort T.F_law_sort.kp T.b_law_sort .nil pass0 (pa_cons (pv 0) pa_nil)) pe_int (nomark _))))) (pss_cons (ps_if (pt_cmpR op_ne (pe_callB call_len_seq (by rfl) T.n_len (by decide +kernel) (pa_cons (pv 0) pa_nil)) (pe_callB call_len_seq (by rfl) T.n_len (by decide +kernel) (pa_cons (pv 1) pa_nil)) (nomark _)) (pss_one (ps_ret pe_bl)) pss_nil)
      (pss_one (ps_ret (pe_cmpR (op_eqP hr.units) (pe_lc (own := [("k", 2), ("part", 3)]) (g := gTup K 2 (gCons (gName 2) (gCons (gName 3) gNil))) rfl sc_law_same.nd (pi_enum1 (by rfl) T.n_enumerate (pa_cons (pv 0) pa_nil)) (blkOk_by (own := [("k", 2), ("part", 3)]) (N := ["told", "due", "k", "part"]) (sc := defScope s_law_same) (by decide +kernel)) (fun _ _ _ _ _ => (pg_tup rfl (pgs_cons (pg_name (i := 2) sc_law_same.nd rfl (.inl rfl)) (pgs_cons (pg_name (i := 3) sc_law_same.nd rfl (.inl rfl)) pgs_nil)))) (fun _ _ _ _ _ => pts_one (pt_not (pt_val (pe_call (G_law_same.mono (by first | decide | omega)) hr (by rfl) T.g_law_same T.F_law_same.kp T.b_law_same .nil pass0 (pa_cons (pv 3) (pa_cons (pe_ix (show IxR _ (rIx K) from ix_seq) (pv 1) (pv 2) (fun _ _ => rfl)) pa_nil)))))) (fun _ _ _ _ _ => (pv 2))) (pe_lst pa_nil) (nomark _))))) pss_nil)
      (pss_one (ps_ret (pe_cmpR (op_eqP hr.units) (pv 0) (pv 1) (nomark _)))))), ?_⟩
    refine ⟨v, rfl, v, d, rfl, hv, u, rfl, u, d, rfl, hu, rfl, _, rfl, ?_⟩
    rw [decide_eq_true (show V.int (sortD d) = V.int (sortD d) from rfl)]
    refine iteF ⟨v, rfl, v, d, rfl, hv, _, _, rfl, rfl, _, rfl, ?_⟩
    have comp : ∀ (b : Bool) (a c : Addr) (xs ys : List V) (ds : List PyData), v = .ref a → u = .ref c → SqK b K H a xs → SqK b K H c ys → DpAll K H xs ds → DpAll K H ys ds → (∀ d ∈ ds, d.depth < n) →
        tOp (rEqP K) (tLc (iEnum1 K (tCons (tVar 0) tNil)) (gTup K 2 (gCons (gName 2) (gCons (gName 3) gNil))) (tNot (tB (tCall (sp_same K n) [] E0 (tCons (tVar 3) (tCons (fun σ H Q => tVar 1 σ H fun x H1 => tVar 2 σ H1 fun y H2 => rIx K x y H2 Q) tNil))))) (tVar 2) [2, 3]) (tLst tNil) (start ["told", "due", "k", "part"] [v, u]) H Q := by
      intro b a c xs ys ds ev eu s1 s2 a1 a2 hdep
      subst ev eu
      have l1 := dpAll_len a1
      have l2 := dpAll_len a2
      refine ⟨_, rfl, b, a, xs, rfl, s1, fun D nD => ?_⟩
      refine lc_it (walk_1 (n := ds.length) (xs := xs) (by omega)) (fun i H' => Same H H' ∧ H' D = some (.lst [])) ⟨same_new nD, upd_same⟩ (fun i H' _ p => ?_) (fun i x H' H2 hi p y => ?_) (fun H' p => ?_)
      · cases b
        · exact seqT_mono p.1 s1
        · exact p.1.seq s1
      · obtain ⟨Tt, x, rfl, nT, rfl, hx⟩ := y
        have s3 : Same H (upd H' Tt (.tup [.int (i : Nat), x])) := p.1.trans (same_new nT)
        obtain ⟨d1, e1, h1⟩ := dpAll_get a1 hx
        obtain ⟨y, hy, h2⟩ := dpAll_at a2 e1
        refine ⟨Tt, _, rfl, .inl (.inl upd_same), rfl, _, _, rfl, _, [], rfl, rfl, ?_⟩
        refine ⟨rfl, x, rfl, .ref c, rfl, _, rfl, ?_⟩
        have hD' : upd H' Tt (.tup [.int (i : Nat), x]) D = some (.lst []) := by
          rw [upd_ne (ne_of_none p.2 nT)]
          exact p.2
        have dd := hdep d1 (List.mem_of_getElem? e1)
        cases b
        · exact .inr (.inl ⟨c, ys, _, y, rfl, rfl, seqT_mono s3 s2, atI_nat hy, x, y, d1, rfl, Dpm s3 h1, Dpm s3 h2, dd, fun H3 s4 => ⟨true, rfl, iteF ⟨s3.trans s4, s4 _ _ hD'⟩⟩⟩)
        · exact .inl ⟨c, ys, _, y, rfl, rfl, s3.seq s2, atI_nat hy, x, y, d1, rfl, Dpm s3 h1, Dpm s3 h2, dd, fun H3 s4 => ⟨true, rfl, iteF ⟨s3.trans s4, s4 _ _ hD'⟩⟩⟩
      · refine ⟨Nat.zero_le _, fun p2 np2 => ?_⟩
        have s5 := p.1.trans (same_new (o := .lst []) np2)
        refine ⟨.list [], .list [], .lst (.inl (.inl ?_)) .nil, .lst (.inl (.inl upd_same)) .nil, by simp [PyData.depth, PyData.depthAll], q _ s5⟩
        rw [upd_ne (ne_of_none p.2 np2)]
        exact p.2
    have flat : d.depth ≤ 64 → tOp (rEqP K) (tVar 0) (tVar 1) (start ["told", "due", "k", "part"] [v, u]) H Q := fun h64 => by
      refine ⟨v, rfl, u, rfl, d, d, hv, hu, h64, ?_⟩
      rw [eqv_self hv]
      exact q H (Same.refl H)
    cases d with
    | none => exact iteT ⟨v, rfl, v, _, rfl, hv, _, _, rfl, rfl, _, rfl, flat (by simp [PyData.depth])⟩
    | bool b => exact flat (by simp [PyData.depth])
    | int b => exact flat (by simp [PyData.depth])
    | str b => exact flat (by simp [PyData.depth])
    | dict b => cases hv
    | list ds =>
      obtain ⟨a, xs, rfl, s1, a1⟩ := dp_lst hv
      obtain ⟨c, ys, rfl, s2, a2⟩ := dp_lst hu
      refine iteT ⟨.ref a, rfl, .ref a, _, rfl, hv, _, _, rfl, rfl, _, rfl, ?_⟩
      refine iteT ⟨.ref a, rfl, a, xs, rfl, .inl s1, .ref c, rfl, c, ys, rfl, .inl s2, rfl, _, rfl, ?_⟩
      rw [dpAll_len a1, dpAll_len a2, decide_eq_true (show V.int (ds.length : Int) = V.int (ds.length : Int) from rfl)]
      refine iteF (comp true a c xs ys ds rfl rfl s1 s2 a1 a2 (fun x hx => ?_))
      have : PyData.depthAll ds + 1 < n + 1 := by simpa [PyData.depth] using hd
      have := depth_of_all (n := PyData.depthAll ds) ds (Nat.le_refl _) x hx
      omega
    | tuple ds =>
      obtain ⟨a, xs, rfl, s1, a1⟩ := dp_tup hv
      obtain ⟨c, ys, rfl, s2, a2⟩ := dp_tup hu
      refine iteT ⟨.ref a, rfl, .ref a, _, rfl, hv, _, _, rfl, rfl, _, rfl, ?_⟩
      refine iteT ⟨.ref a, rfl, a, xs, rfl, .inr s1, .ref c, rfl, c, ys, rfl, .inr s2, rfl, _, rfl, ?_⟩
      rw [dpAll_len a1, dpAll_len a2, decide_eq_true (show V.int (ds.length : Int) = V.int (ds.length : Int) from rfl)]
      refine iteF (comp false a c xs ys ds rfl rfl s1 s2 a1 a2 (fun x hx => ?_))
      have : PyData.depthAll ds + 1 < n + 1 := by simpa [PyData.depth] using hd
      have := depth_of_all (n := PyData.depthAll ds) ds (Nat.le_refl _) x hx
      omega
theorem ok_law_same (T : Tx K mg) : ∀ n : Nat, FnOk P w K mg base CX0 (n + 1) T.f_law_same T.fd_law_same ["told", "due"] (sp_same K n)
  | 0 => ⟨fun vs H Q E h => by
      obtain ⟨_, _, _, _, _, _, z, _⟩ := h
      omega, fun A outer s H args us vs Q E hr he hb hv h => by
      obtain ⟨_, _, _, _, _, _, z, _⟩ := h
      omega⟩
  | n + 1 => same_step T (Nat.succ_le_succ (Nat.zero_le n)) (ok_law_same T n)
end PS

namespace PS
open PySem PySem.Spec PyProof.Rows L2
variable {P : Program} {w : World} {K : PySem.W.Frag} {mg : Str → Option Value} {base : Heap}
theorem off_new {k p : Addr} {H : Hp} {o : HO} (np : H p = none) : Same (Off k H) (Off k (upd H p o)) := off_mono (same_new np)
theorem off_free {k p : Addr} {H : Hp} (np : H p = none) : Off k H p = none := by
  unfold Off
  split
  · rfl
  · exact np
theorem off_up {k p : Addr} {H : Hp} {o : HO} (n : p ≠ k) : Off k (upd H p o) p = some o := off_at n upd_same
theorem off_keep {k D : Addr} {H0 H : Hp} {o : HO} (s : Same (Off k H0) (Off k H)) (nD : H0 D = none) : Same (Off k H0) (Off k (upd H D o)) := fun b x e => by
  have nb : b ≠ D := ne_of_none e (off_free nD)
  have h := s b x e
  unfold Off at h ⊢
  split at h
  · cases h
  · rename_i nk
    rw [if_neg nk, upd_ne nb]
    exact h
/-! ### shelves -/
def sp_shelf (K : PySem.W.Frag) : Sp := fun vs H Q _ => ∃ (k : Addr) (m pl : Int) (n : Nat), vs = [.ref k, .int m, .int pl] ∧ 1 ≤ m ∧ m ≤ 8 ∧ 0 ≤ pl ∧ pl ≤ 400 ∧ Dk k H (n + 20) ∧
  ∀ v H' room ls, ShOk room ls → (ls.length : Int) ≤ m → room - ls.sum ≤ pl → Dk k H' n → Same (Off k H) (Off k H') → Dp K (Off k H') v (shD room ls) → Q v H'
theorem ok_law_shelf (T : Tx K mg) : FnOk P w K mg base CX0 3 T.f_law_shelf T.fd_law_shelf ["deck", "at_most", "play"] (sp_shelf K) := by
  have G_law_pick := ok_law_pick (P := P) (w := w) (base := base) T
  have G_law_one := ok_law_one (P := P) (w := w) (base := base) T
  refine T.F_law_shelf.ok sc_law_shelf (fun vs H Q E h => ?_) (fun cdv A outer s H vs Q E hr h => ?_)
  · obtain ⟨k, m, pl, n, rfl, _⟩ := h
    rfl
  · obtain ⟨k, m, pl, n, rfl, m1, m8, p0, p4, dk, q⟩ := h
    refine ⟨_, (pss_cons (ps_set (i := 3) sc_law_shelf.nd rfl (.inl rfl) (pe_callTy call_tuple_of (by rfl) T.n_tuple (by decide +kernel) (pa_cons (pe_lc (own := [("k", 4)]) (g := gName 4) (tt := tYes) rfl sc_law_shelf.nd (pi_range1 (by rfl) T.n_range (pa_cons (pe_op op_add pe_int (pe_call (G_law_pick.mono (by first | decide | omega)) hr (by rfl) T.g_law_pick T.F_law_pick.kp T.b_law_pick .nil pass0 (pa_cons (pv 0) (pa_cons (pv 1) pa_nil)))) pa_nil)) (blkOk_by (own := [("k", 4)]) (N := ["deck", "at_most", "play", "blocks", "k"]) (sc := defScope s_law_shelf) (by decide +kernel)) (fun _ _ _ _ _ => (pg_name (i := 4) sc_law_shelf.nd rfl (.inl rfl))) (fun _ _ _ _ _ => pts_nil) (fun _ _ _ _ _ => (pe_op op_add pe_int (pe_call (G_law_pick.mono (by first | decide | omega)) hr (by rfl) T.g_law_pick T.F_law_pick.kp T.b_law_pick .nil pass0 (pa_cons (pv 0) (pa_cons (pe_call (G_law_one.mono (by first | decide | omega)) hr (by rfl) T.g_law_one T.F_law_one.kp T.b_law_one .nil pass0 (pa_cons (pv 0) (pa_cons (pe_lst (pa_cons pe_int (pa_cons pe_int pa_nil))) pa_nil))) pa_nil)))))) pa_nil)))
      (pss_one (ps_ret (pe_tup (pa_cons (pe_op op_add (pe_callB (cr_sumT rfl) (by rfl) T.n_sum (by decide +kernel) (pa_cons (pv 3) pa_nil)) (pe_call (G_law_pick.mono (by first | decide | omega)) hr (by rfl) T.g_law_pick T.F_law_pick.kp T.b_law_pick .nil pass0 (pa_cons (pv 0) (pa_cons (pe_op op_add (pv 2) pe_int) pa_nil)))) (pa_cons (pv 3) pa_nil)))))), ?_⟩
    refine ⟨.ref k, rfl, .int m, rfl, k, m, n + 19, rfl, by omega, by omega, dk, fun r H1 r0 r1 dk1 s1 => ?_⟩
    refine ⟨_, _, rfl, rfl, _, rfl, by omega, by omega, fun D nD => ?_⟩
    refine lc_range (lo := 0) (n := (1 + r).toNat) (fun i H' => Same (Off k H1) (Off k H') ∧ Dk k H' (n + 19 - 2 * i) ∧ ∃ ns : List Int, H' D = some (.lst (iV ns)) ∧ ns.length = i ∧ ∀ l ∈ ns, 1 ≤ l ∧ l ≤ 50)
      ⟨off_new nD, dk1.same (same_new nD), [], upd_same, rfl, by simp⟩ (fun i H' hi p => ?_) (fun H' p => ?_)
    · obtain ⟨s2, dk2, ns, hD, hl, hb⟩ := p
      refine ⟨rfl, .ref k, rfl, .ref k, rfl, by show 2 ≤ sizeLine; decide, fun z nz => ?_⟩
      have nzk := dk2.ne nz
      refine ⟨k, z, [.int 3, .int 50], n + 17 - 2 * i + 1, rfl, .inl (.inl (off_up nzk)), by decide, by decide, (dk2.same (same_new nz)).le (by omega), fun x H3 hx dk3 s3 => ?_⟩
      have hx' : x = .int 3 ∨ x = .int 50 := by simpa using hx
      have fin : ∀ c : Int, 0 < c → c ≤ 50 → sp_pick K [.ref k, .int c] H3 (fun y H4 => ∃ i1 j1, (V.int 1) = .int i1 ∧ y = .int j1 ∧ ∃ acc, H4 D = some (.lst acc) ∧ acc.length < sizeLine ∧ Same (Off k H1) (Off k (upd H4 D (.lst (acc ++ [.int (i1 + j1)])))) ∧ Dk k (upd H4 D (.lst (acc ++ [.int (i1 + j1)]))) (n + 19 - 2 * (i + 1)) ∧ ∃ ns : List Int, upd H4 D (.lst (acc ++ [.int (i1 + j1)])) D = some (.lst (iV ns)) ∧ ns.length = i + 1 ∧ ∀ l ∈ ns, 1 ≤ l ∧ l ≤ 50) E0 := by
        intro c c0 c1
        refine ⟨k, c, n + 17 - 2 * i, rfl, c0, by omega, dk3, fun t H4 t0 t1 dk4 s4 => ?_⟩
        have nDk : D ≠ k := dk1.ne nD
        have sA : Same (Off k H') (Off k H4) := ((off_new nz).trans s3).trans s4
        have hD4 : H4 D = some (.lst (iV ns)) := off_back sA nDk hD
        have s5 : Same (Off k H1) (Off k H4) := s2.trans sA
        refine ⟨1, t, rfl, rfl, _, hD4, ?_, off_keep s5 nD, ?_, ns ++ [1 + t], ?_, ?_, ?_⟩
        · rw [List.length_map]
          exact small1000 (by omega)
        · obtain ⟨a, b, c, h1, h2⟩ := dk4.le (show n + 19 - 2 * (i + 1) ≤ n + 17 - 2 * i by omega)
          exact ⟨a, b, c, by rw [upd_ne nDk.symm]; exact h1, h2⟩
        · rw [upd_same]
          simp
        · rw [List.length_append, hl]
          rfl
        · intro l hl'
          rcases List.mem_append.mp hl' with z | z
          · exact hb l z
          · have : l = 1 + t := by simpa using z
            omega
      rcases hx' with rfl | rfl
      · exact fin 3 (by decide) (by decide)
      · exact fin 50 (by decide) (by decide)
    · obtain ⟨s2, dk2, ns, hD, hl, hb⟩ := p
      refine ⟨D, _, rfl, .inl ⟨.inl (.inl hD), fun t nt => ?_⟩⟩
      have hT : upd H' t (.tup (iV ns)) t = some (.tup (iV ns)) := upd_same
      have ntk := dk2.ne nt
      refine ⟨.ref t, rfl, t, ns, rfl, .inl (.inl hT), .ref k, rfl, _, rfl, _, _, rfl, rfl, k, pl + 1, n, rfl, by omega, by omega, (dk2.same (same_new nt)).le (by omega), fun r2 H4 r20 r21 dk4 s4 => ?_⟩
      refine ⟨_, _, rfl, rfl, .ref t, rfl, by show 2 ≤ sizeLine; decide, fun z nz => ?_⟩
      have h5 : Off k H4 t = some (.tup (iV ns)) := s4 _ _ (off_up ntk)
      have nzk := dk4.ne nz
      refine q (.ref z) _ (ns.sum + r2) ns ⟨by omega, by omega, hb, by omega, by omega⟩ (by omega) (by omega) (dk4.same (same_new nz)) (((s1.trans s2).trans (off_new nt)).trans (s4.trans (off_new nz))) ?_
      refine .tup (.inl (.inl (off_up nzk))) (.cons (.int _) (.cons (tI_dp (.inl (.inl ?_))) .nil))
      exact off_new nz _ _ h5
def sp_play (K : PySem.W.Frag) : Sp := fun vs H Q _ => ∃ v room ls, vs = [v] ∧ Dp K H v (shD room ls) ∧ Q (.int (room - ls.sum)) H
theorem ok_law_play (T : Tx K mg) : FnOk P w K mg base CX0 1 T.f_law_play T.fd_law_play ["shelf"] (sp_play K) := by
  refine T.F_law_play.ok sc_law_play (fun vs H Q E h => ?_) (fun cdv A outer s H vs Q E hr h => ?_)
  · obtain ⟨v, room, ls, rfl, _⟩ := h
    rfl
  · obtain ⟨v, room, ls, rfl, hv, q⟩ := h
    obtain ⟨a, b, rfl, sa, sb⟩ := dp_shelf hv
    refine ⟨_, (pss_one (ps_ret (pe_op op_sub (pe_ix ix_tup (pv 0) pe_int (fun _ _ => rfl)) (pe_callB (cr_sumT rfl) (by rfl) T.n_sum (by decide +kernel) (pa_cons (pe_ix ix_tup (pv 0) pe_int (fun _ _ => rfl)) pa_nil))))), ?_⟩
    exact ⟨.ref a, rfl, a, _, 0, _, rfl, rfl, sa, atI_nat (j := 0) rfl, .ref a, rfl, a, _, 1, _, rfl, rfl, sa, atI_nat (j := 1) rfl, b, ls, rfl, sb, _, _, rfl, rfl, q⟩
/-! ### stands -/
def sp_stand_of (K : PySem.W.Frag) : Sp := fun vs H Q _ => ∃ v a room ls y, vs = [v, .ref a] ∧ Dp K H v (shD room ls) ∧ ls.length ≤ 8 ∧ (SqL K H a (iV ((List.range ls.length).map y)) ∨ SqT K H a (iV ((List.range ls.length).map y))) ∧ RD K H Q (tI (stL ls y))
theorem stL_take {ls : List Int} {y : Nat → Int} {i : Nat} (h : i < ls.length) : (stL ls y).take (i + 1) = (stL ls y).take i ++ [y i + pre ls i] := by
  rw [List.take_add_one, stL_get h]
  rfl
theorem stand_of_any (b : Bool) (T : Tx K mg) : FnOk P w K mg base CX0 1 T.f_law_stand_of T.fd_law_stand_of ["shelf", "places"] (fun vs H Q _ => ∃ v a room ls y, vs = [v, .ref a] ∧ Dp K H v (shD room ls) ∧ ls.length ≤ 8 ∧ SqK b K H a (iV ((List.range ls.length).map y)) ∧ RD K H Q (tI (stL ls y))) := by
  refine T.F_law_stand_of.ok sc_law_stand_of (fun vs H Q E h => ?_) (fun cdv A outer s H vs Q E hr h => ?_)
  · obtain ⟨v, a, room, ls, y, rfl, _⟩ := h
    rfl
  · obtain ⟨v, a, room, ls, y, rfl, hv, n8, ha, q⟩ := h
    obtain ⟨c, d, rfl, sc, sd⟩ := dp_shelf hv
    refine ⟨_, (pss_cons (ps_par (i := 2) (j := 3) (by rfl) sc_law_stand_of.nd rfl rfl (by decide) rfl rfl (pa_cons (pe_lst pa_nil) (pa_cons pe_int pa_nil)) (by rfl))
      (pss_cons (ps_for PassesOwn.never rfl (pi_zip2 b false (by rfl) T.n_zip (pa_cons (pv 1) (pa_cons (pe_ix ix_tup (pv 0) pe_int (fun _ _ => rfl)) pa_nil))) (pg_tup rfl (pgs_cons (pg_name (i := 4) sc_law_stand_of.nd rfl (.inl rfl)) (pgs_cons (pg_name (i := 5) sc_law_stand_of.nd rfl (.inl rfl)) pgs_nil)))
      (pss_cons (ps_expr (pe_bm PySem.F.plainAttrs_list PySem.F.slot_list_append PySem.F.type_list_append mt_append (pv 2) (pa_cons (pe_op op_add (pv 4) (pv 3)) pa_nil)))
      (pss_one (ps_set (i := 3) sc_law_stand_of.nd rfl (.inl rfl) (pe_op op_add (pv 3) (pv 5))))))
      (pss_one (ps_ret (pe_callTy call_tuple_of (by rfl) T.n_tuple (by decide +kernel) (pa_cons (pv 2) pa_nil)))))), ?_⟩
    refine ⟨Nat.zero_le _, fun l nl => ⟨_, _, rfl, ?_⟩⟩
    have s1 : Same H (upd H l (.lst [])) := same_new nl
    have ha1 : SqK b K (upd H l (.lst [])) a (iV ((List.range ls.length).map y)) := by
      cases b
      · exact seqT_mono s1 ha
      · exact s1.seq ha
    refine ⟨.ref a, rfl, .ref c, rfl, c, _, 1, _, rfl, rfl, seqT_mono s1 sc, atI_nat (j := 1) rfl, a, d, _, _, rfl, ha1, seqT_mono s1 sd, ?_⟩
    refine for_it (walk_2 (n := ls.length) (xs := iV ((List.range ls.length).map y)) (ys := iV ls) (by simp)) (fun i σ H' => Same H H' ∧ H' l = some (.lst (iV ((stL ls y).take i))) ∧ ∃ y4 y5, σ = [some (.ref c), some (.ref a), some (.ref l), some (.int (pre ls i)), y4, y5])
      ⟨s1, upd_same, none, none, by rw [pre_zero]; rfl⟩ (fun i σ H' _ p => ⟨?_, seqT_mono p.1 sd⟩) (fun i x σ H' H2 hi p yy => ?_) (fun σ H' p => ?_)
    · cases b
      · exact seqT_mono p.1 ha
      · exact p.1.seq ha
    · obtain ⟨s2, hl, y4, y5, rfl⟩ := p
      obtain ⟨Tt, x, z, rfl, nT, rfl, hx, hz⟩ := yy
      have s3 : Same H (upd H' Tt (.tup [x, z])) := s2.trans (same_new nT)
      have ex : x = .int (y i) := by
        rw [iV_get (v := y i) (by simp [hi])] at hx
        exact (Option.some.inj hx).symm
      have ez : z = .int ls[i] := by
        rw [iV_get (List.getElem?_eq_getElem hi)] at hz
        exact (Option.some.inj hz).symm
      subst ex ez
      have hl2 : upd H' Tt (.tup [.int (y i), .int ls[i]]) l = some (.lst (iV ((stL ls y).take i))) := by
        rw [upd_ne (ne_of_none hl nT)]
        exact hl
      refine ⟨Tt, _, rfl, .inl (.inl upd_same), rfl, _, _, rfl, _, [], rfl, rfl, ?_⟩
      refine ⟨.ref l, rfl, .inl ⟨rfl, _, .inl (.inl hl2)⟩, _, rfl, _, rfl, _, _, rfl, rfl, l, _, _, rfl, rfl, hl2, ?_, ?_⟩
      · rw [List.length_map, List.length_take]
        exact small1000 (by omega)
      · refine ⟨_, rfl, _, rfl, _, _, rfl, rfl, fun b o hb => ?_, ?_, some (.int (y i)), some (.int ls[i]), ?_⟩
        · rw [upd_ne (ne_of_none hb nl)]
          exact s3 b o hb
        · rw [upd_same, stL_take hi]
          simp
        · rw [pre_succ hi]
          rfl
    · obtain ⟨s2, hl, y4, y5, rfl⟩ := p
      rw [List.take_of_length_le (by rw [stL_len]; exact Nat.le_refl _)] at hl
      refine ⟨.ref l, rfl, l, _, rfl, .inl ⟨.inl (.inl hl), fun t nt => ?_⟩⟩
      exact q _ _ (s2.trans (same_new nt)) (tI_dp (.inl (.inl upd_same)))
end PS

namespace PS
open PySem PySem.Spec PyProof.Rows L2
variable {P : Program} {w : World} {K : PySem.W.Frag} {mg : Str → Option Value} {base : Heap}
theorem range_getD (ns : List Int) : (List.range ns.length).map (fun j => ns.getD j 0) = ns := by
  apply List.ext_getElem?
  intro j
  by_cases h : j < ns.length
  · simp [h]
  · rw [List.getElem?_eq_none (by simp; omega), List.getElem?_eq_none (by omega)]
theorem rise_sorted {ns : List Int} {pl : Int} (hs : ns.Pairwise (· ≤ ·)) (hb : ∀ x ∈ ns, 0 ≤ x ∧ x ≤ pl) : Rise ns.length pl (fun j => ns.getD j 0) where
  lo := fun j hj => by
    have := hb ns[j] (List.getElem_mem hj)
    simp [hj]; omega
  hi := fun j hj => by
    have := hb ns[j] (List.getElem_mem hj)
    simp [hj]; omega
  up := fun j hj => by
    have h1 : j < ns.length := by omega
    have := List.pairwise_iff_getElem.mp hs j (j + 1) h1 hj (by omega)
    simp [h1, hj]
    exact this
def sp_stand (K : PySem.W.Frag) : Sp := fun vs H Q _ => ∃ (k : Addr) (v : V) (room : Int) (ls : List Int) (n : Nat), vs = [.ref k, v] ∧ Dp K (Off k H) v (shD room ls) ∧ ShOk room ls ∧ Dk k H (n + 20) ∧
  ∀ u H' y, Rise ls.length (room - ls.sum) y → Dk k H' n → Same (Off k H) (Off k H') → Dp K (Off k H') u (tI (stL ls y)) → Q u H'
theorem ok_law_stand (T : Tx K mg) : FnOk P w K mg base CX0 3 T.f_law_stand T.fd_law_stand ["deck", "shelf"] (sp_stand K) := by
  have G_law_pick := ok_law_pick (P := P) (w := w) (base := base) T
  have G_law_one := ok_law_one (P := P) (w := w) (base := base) T
  have G_law_play := ok_law_play (P := P) (w := w) (base := base) T
  have G_law_stand_of := stand_of_any (P := P) (w := w) (base := base) true T
  refine T.F_law_stand.ok sc_law_stand (fun vs H Q E h => ?_) (fun cdv A outer s H vs Q E hr h => ?_)
  · obtain ⟨k, v, _, _, n, rfl, _⟩ := h
    rfl
  · obtain ⟨k, v, room, ls, n, rfl, hv, sh, dk, q⟩ := h
    have fin : ∀ (H' : Hp) (p : Addr) (ns : List Int), Same (Off k H) (Off k H') → Dk k H' n → p ≠ k → H' p = some (.lst (iV ns)) → ns.length = ls.length → ns.Pairwise (· ≤ ·) → (∀ x ∈ ns, 0 ≤ x ∧ x ≤ room - ls.sum) →
        ∃ v' a room' ls' y, [v, .ref p] = [v', V.ref a] ∧ Dp K H' v' (shD room' ls') ∧ ls'.length ≤ 8 ∧ SqK true K H' a (iV ((List.range ls'.length).map y)) ∧ RD K H' Q (tI (stL ls' y)) := by
      intro H' p ns sm dk' npk hp hl hs hb
      refine ⟨v, p, room, ls, fun j => ns.getD j 0, rfl, Dpm (sm.trans (off_same k H')) hv, sh.n8, ?_, fun u H3 s3 h3 => ?_⟩
      · rw [← hl, range_getD]
        exact .inl (.inl hp)
      · obtain ⟨l, hk⟩ := (dk'.same s3).lst
        have ri := rise_sorted hs hb
        rw [hl] at ri
        exact q u H3 _ ri (dk'.same s3) (sm.trans (off_mono s3)) (dp_off hk _ _ (noL_tI _) h3)
    obtain ⟨a, b, rfl, sa, sb⟩ := dp_shelf hv
    have pl0 := sh.lo
    have pl4 := sh.hi
    have n8 := sh.n8
    refine ⟨_, (pss_cons (ps_set (i := 2) sc_law_stand.nd rfl (.inr rfl) (pe_callB cr_sorted (by rfl) T.n_sorted (by decide +kernel) (pa_cons (pe_lc (own := [("long", 3)]) (g := gName 3) (tt := tYes) rfl sc_law_stand.nd (pi_tup (pe_ix ix_tup (pv 1) pe_int (fun _ _ => rfl))) (blkOk_by (own := [("long", 3)]) (N := ["deck", "shelf", "places", "long"]) (sc := defScope s_law_stand) (by decide +kernel)) (fun _ _ _ _ _ => (pg_name (i := 3) sc_law_stand.nd rfl (.inl rfl))) (fun _ _ _ _ _ => pts_nil) (fun _ _ _ _ _ => (pe_call (G_law_pick.mono (by first | decide | omega)) hr (by rfl) T.g_law_pick T.F_law_pick.kp T.b_law_pick .nil pass0 (pa_cons (pv 0) (pa_cons (pe_op op_add (pe_call (G_law_play.mono (by first | decide | omega)) hr (by rfl) T.g_law_play T.F_law_play.kp T.b_law_play .nil pass0 (pa_cons (pv 1) pa_nil)) pe_int) pa_nil))))) pa_nil)))
      (pss_cons (ps_if (pt_cmpR op_eq (pe_call (G_law_pick.mono (by first | decide | omega)) hr (by rfl) T.g_law_pick T.F_law_pick.kp T.b_law_pick .nil pass0 (pa_cons (pv 0) (pa_cons pe_int pa_nil))) pe_int (nomark _)) (pss_one (ps_set (i := 2) sc_law_stand.nd rfl (.inr rfl) (pe_callB cr_sorted (by rfl) T.n_sorted (by decide +kernel) (pa_cons (pe_lc (own := [("long", 3)]) (g := gName 3) (tt := tYes) rfl sc_law_stand.nd (pi_tup (pe_ix ix_tup (pv 1) pe_int (fun _ _ => rfl))) (blkOk_by (own := [("long", 3)]) (N := ["deck", "shelf", "places", "long"]) (sc := defScope s_law_stand) (by decide +kernel)) (fun _ _ _ _ _ => (pg_name (i := 3) sc_law_stand.nd rfl (.inl rfl))) (fun _ _ _ _ _ => pts_nil) (fun _ _ _ _ _ => (pe_call (G_law_one.mono (by first | decide | omega)) hr (by rfl) T.g_law_one T.F_law_one.kp T.b_law_one .nil pass0 (pa_cons (pv 0) (pa_cons (pv 2) pa_nil))))) pa_nil)))) pss_nil)
      (pss_one (ps_ret (pe_call (G_law_stand_of.mono (by first | decide | omega)) hr (by rfl) T.g_law_stand_of T.F_law_stand_of.kp T.b_law_stand_of .nil pass0 (pa_cons (pv 1) (pa_cons (pv 2) pa_nil))))))), ?_⟩
    refine ⟨.ref a, rfl, a, _, 1, _, rfl, rfl, seqT_mono (off_same k H) sa, atI_nat (j := 1) rfl, b, rfl, ⟨_, seqT_mono (off_same k H) sb⟩, fun D nD => ?_⟩
    have nDk : D ≠ k := dk.ne nD
    refine lc_tup (K := K) (a := b) (xs := iV ls) (fun i H' => Same (Off k H) (Off k H') ∧ Dk k H' (n + 20 - i) ∧ ∃ ns : List Int, H' D = some (.lst (iV ns)) ∧ ns.length = i ∧ ∀ x ∈ ns, 0 ≤ x ∧ x ≤ room - ls.sum)
      ⟨off_new nD, dk.same (same_new nD), [], upd_same, rfl, by simp⟩ (fun i H' _ p => seqT_mono (p.1.trans (off_same k H')) sb) (fun i x H' hx p => ?_) (fun H' p => ?_)
    · obtain ⟨s2, dk2, ns, hD, hl, hb⟩ := p
      have hi : i < ls.length := by
        have := (List.getElem?_eq_some_iff.mp hx).1
        rwa [iV_len] at this
      refine ⟨rfl, .ref k, rfl, .ref a, rfl, .ref a, room, ls, rfl, Dpm (s2.trans (off_same k H')) hv, _, _, rfl, rfl, k, _, n + 19 - i, rfl, by omega, by omega, dk2.le (by omega), fun r H4 r0 r1 dk4 s4 => ?_⟩
      have hD4 : H4 D = some (.lst (iV ns)) := off_back s4 nDk hD
      refine ⟨_, hD4, ?_, off_keep (s2.trans s4) nD, ?_, ns ++ [r], ?_, ?_, ?_⟩
      · rw [List.length_map]
        exact small1000 (by omega)
      · obtain ⟨a, b, c, h1, h2⟩ := dk4.le (show n + 20 - (i + 1) ≤ n + 19 - i by omega)
        exact ⟨a, b, c, by rw [upd_ne nDk.symm]; exact h1, h2⟩
      · rw [upd_same]
        simp
      · rw [List.length_append, hl]
        rfl
      · intro l hl'
        rcases List.mem_append.mp hl' with z | z
        · exact hb l z
        · have : l = r := by simpa using z
          omega
    · obtain ⟨s2, dk2, ns, hD, hl, hb⟩ := p
      rw [iV_len] at hl dk2
      refine ⟨D, ns, rfl, .inl (.inl hD), by omega, fun ns1 p1 perm1 sort1 np1 => ?_⟩
      have hl1 : ns1.length = ls.length := by rw [perm1.length_eq, hl]
      have hb1 : ∀ x ∈ ns1, 0 ≤ x ∧ x ≤ room - ls.sum := fun x hx => hb x (perm1.mem_iff.mp hx)
      have np1k : p1 ≠ k := dk2.ne np1
      refine ⟨.ref k, rfl, k, 3, n + 11, rfl, by decide, by decide, (dk2.same (same_new np1)).le (by omega), fun r H3 r0 r1 dk3 s3 => ?_⟩
      have hp1 : H3 p1 = some (.lst (iV ns1)) := off_back s3 np1k upd_same
      have s13 : Same (Off k H) (Off k H3) := (s2.trans (off_new np1)).trans s3
      refine ⟨rfl, _, rfl, ite2 (fun _ => ?_) (fun _ => ?_)⟩
      · have sa3 := seqT_mono (s13.trans (off_same k H3)) sa
        have sb3 := seqT_mono (s13.trans (off_same k H3)) sb
        refine ⟨.ref a, rfl, a, _, 1, _, rfl, rfl, sa3, atI_nat (j := 1) rfl, b, rfl, ⟨_, sb3⟩, fun D2 nD2 => ?_⟩
        have nD2k : D2 ≠ k := dk3.ne nD2
        have nDp : p1 ≠ D2 := ne_of_none hp1 nD2
        refine lc_tup (K := K) (a := b) (xs := iV ls) (fun i H' => Same (Off k H3) (Off k H') ∧ Dk k H' (n + 11 - i) ∧ ∃ ns : List Int, H' D2 = some (.lst (iV ns)) ∧ ns.length = i ∧ ∀ x ∈ ns, 0 ≤ x ∧ x ≤ room - ls.sum)
          ⟨off_new nD2, dk3.same (same_new nD2), [], upd_same, rfl, by simp⟩ (fun i H' _ p => seqT_mono ((s13.trans p.1).trans (off_same k H')) sb) (fun i x H' hx p => ?_) (fun H' p => ?_)
        · obtain ⟨s4, dk4, ns2, hD2, hl2, hb2⟩ := p
          have hi : i < ls.length := by
            have := (List.getElem?_eq_some_iff.mp hx).1
            rwa [iV_len] at this
          have hp4 : Off k H' p1 = some (.lst (iV ns1)) := s4 _ _ (off_at np1k hp1)
          refine ⟨rfl, .ref k, rfl, .ref p1, rfl, k, p1, _, n + 10 - i, rfl, .inl (.inl hp4), by rw [iV_len]; have := sh.n1; omega, by rw [iV_len]; omega, dk4.le (by omega), fun x H5 hx5 dk5 s5 => ?_⟩
          obtain ⟨r5, hr5, rfl⟩ := List.mem_map.mp hx5
          have hD5 : H5 D2 = some (.lst (iV ns2)) := off_back s5 nD2k hD2
          refine ⟨_, hD5, ?_, off_keep (s4.trans s5) nD2, ?_, ns2 ++ [r5], ?_, ?_, ?_⟩
          · rw [List.length_map]
            exact small1000 (by omega)
          · obtain ⟨a, b, c, h1, h2⟩ := dk5.le (show n + 11 - (i + 1) ≤ n + 10 - i by omega)
            exact ⟨a, b, c, by rw [upd_ne nD2k.symm]; exact h1, h2⟩
          · rw [upd_same]
            simp
          · rw [List.length_append, hl2]
            rfl
          · intro l hl'
            rcases List.mem_append.mp hl' with z | z
            · exact hb2 l z
            · have : l = r5 := by simpa using z
              rw [this]
              exact hb1 r5 hr5
        · obtain ⟨s4, dk4, ns2, hD2, hl2, hb2⟩ := p
          rw [iV_len] at hl2 dk4
          refine ⟨D2, ns2, rfl, .inl (.inl hD2), by omega, fun ns3 p3 perm3 sort3 np3 => ?_⟩
          refine ⟨.ref a, rfl, .ref p3, rfl, ?_⟩
          exact fin _ p3 ns3 ((s13.trans s4).trans (off_new np3)) ((dk4.same (same_new np3)).le (by omega)) (dk4.ne np3) upd_same (by rw [perm3.length_eq, hl2]) sort3 (fun x hx => hb2 x (perm3.mem_iff.mp hx))
      · refine ⟨.ref a, rfl, .ref p1, rfl, ?_⟩
        exact fin _ p1 ns1 s13 (dk3.le (by omega)) np1k hp1 hl1 sort1 hb1
/-! ### pushes and rows -/
def sp_push (K : PySem.W.Frag) : Sp := fun vs H Q _ => ∃ (k : Addr) (v : V) (room : Int) (ls : List Int) (n : Nat), vs = [.ref k, v] ∧ Dp K (Off k H) v (shD room ls) ∧ ShOk room ls ∧ Dk k H (n + 3) ∧
  ∀ u H' p, PuOk ls.length (room - ls.sum) p → Dk k H' n → Same (Off k H) (Off k H') → Dp K (Off k H') u (puD ls p) → Q u H'
theorem ok_law_push (T : Tx K mg) : FnOk P w K mg base CX0 3 T.f_law_push T.fd_law_push ["deck", "shelf"] (sp_push K) := by
  have G_law_pick := ok_law_pick (P := P) (w := w) (base := base) T
  have G_law_one := ok_law_one (P := P) (w := w) (base := base) T
  have G_law_play := ok_law_play (P := P) (w := w) (base := base) T
  refine T.F_law_push.ok sc_law_push (fun vs H Q E h => ?_) (fun cdv A outer s H vs Q E hr h => ?_)
  · obtain ⟨k, v, _, _, n, rfl, _⟩ := h
    rfl
  · obtain ⟨k, v, room, ls, n, rfl, hv, sh, dk, q⟩ := h
    obtain ⟨a, b, rfl, sa, sb⟩ := dp_shelf hv
    have pl0 := sh.lo
    have pl4 := sh.hi
    have n8 := sh.n8
    have n1 := sh.n1
    refine ⟨_, (pss_cons (ps_set (i := 2) sc_law_push.nd rfl (.inl rfl) (pe_call (G_law_one.mono (by first | decide | omega)) hr (by rfl) T.g_law_one T.F_law_one.kp T.b_law_one .nil pass0 (pa_cons (pv 0) (pa_cons (pe_lst (pa_cons pe_str (pa_cons pe_str pa_nil))) pa_nil))))
      (pss_cons (ps_set (i := 3) sc_law_push.nd rfl (.inl rfl) (pe_op op_add (pe_call (G_law_pick.mono (by first | decide | omega)) hr (by rfl) T.g_law_pick T.F_law_pick.kp T.b_law_pick .nil pass0 (pa_cons (pv 0) (pa_cons (pe_callB call_len_seq (by rfl) T.n_len (by decide +kernel) (pa_cons (pe_ix ix_tup (pv 1) pe_int (fun _ _ => rfl)) pa_nil)) pa_nil))) (pe_callTy call_int1 (by rfl) T.n_int (by decide +kernel) (pa_cons (pe_cmpR op_eq (pv 2) pe_str (nomark _)) pa_nil))))
      (pss_one (ps_ret (pe_tup (pa_cons (pv 2) (pa_cons (pv 3) (pa_cons (pe_op op_add (pe_callB (cr_sumT rfl) (by rfl) T.n_sum (by decide +kernel) (pa_cons (pe_slice sl_tupA (pe_ix ix_tup (pv 1) pe_int (fun _ _ => rfl)) po_none (po_some (pv 3))) pa_nil)) (pe_call (G_law_pick.mono (by first | decide | omega)) hr (by rfl) T.g_law_pick T.F_law_pick.kp T.b_law_pick .nil pass0 (pa_cons (pv 0) (pa_cons (pe_op op_add (pe_call (G_law_play.mono (by first | decide | omega)) hr (by rfl) T.g_law_play T.F_law_play.kp T.b_law_play .nil pass0 (pa_cons (pv 1) pa_nil)) pe_int) pa_nil)))) pa_nil)))))))), ?_⟩
    refine ⟨.ref k, rfl, by show 2 ≤ sizeLine; decide, fun z nz => ?_⟩
    have nzk := dk.ne nz
    refine ⟨k, z, [.str "right", .str "left"], n + 2, rfl, .inl (.inl (off_up nzk)), by decide, by decide, dk.same (same_new nz), fun x H1 hx dk1 s1 => ?_⟩
    have sm1 : Same (Off k H) (Off k H1) := (off_new nz).trans s1
    have t1 := sm1.trans (off_same k H1)
    have hx' : ∃ rt : Bool, x = .str (sideS rt) := by
      have : x = .str "right" ∨ x = .str "left" := by simpa using hx
      rcases this with e | e
      · exact ⟨true, e⟩
      · exact ⟨false, e⟩
    obtain ⟨rt, rfl⟩ := hx'
    refine ⟨.ref k, rfl, .ref a, rfl, a, _, 1, _, rfl, rfl, seqT_mono t1 sa, atI_nat (j := 1) rfl, b, _, rfl, .inr (seqT_mono t1 sb), k, _, n + 1, rfl, by rw [iV_len]; omega, by rw [iV_len]; omega, dk1, fun r H2 r0 r1 dk2 s2 => ?_⟩
    rw [iV_len] at r1
    refine ⟨_, rfl, rfl, .inr ⟨_, rfl, _, _, rfl, rfl, ?_⟩⟩
    obtain ⟨g, eg, gk⟩ : ∃ g : Nat, (r + if decide (V.str (sideS rt) = V.str "left") = true then 1 else 0) = (g : Int) ∧ (∀ c : Int, 0 ≤ c → c ≤ room - ls.sum → PuOk ls.length (room - ls.sum) (rt, g, c)) := by
      cases rt with
      | true =>
        refine ⟨r.toNat, ?_, fun c c0 c1 => ⟨fun _ => by simp only; omega, fun z => by simp at z, c0, c1⟩⟩
        rw [decide_eq_false (show ¬ V.str (sideS true) = V.str "left" from by decide +kernel)]
        simp; omega
      | false =>
        refine ⟨r.toNat + 1, ?_, fun c c0 c1 => ⟨fun z => by simp at z, fun _ => by simp only; omega, c0, c1⟩⟩
        rw [decide_eq_true (show V.str (sideS false) = V.str "left" from rfl)]
        simp; omega
    dsimp only
    rw [eg]
    have t2 := (sm1.trans s2).trans (off_same k H2)
    refine ⟨_, rfl, _, rfl, .ref a, rfl, a, _, 1, _, rfl, rfl, seqT_mono t2 sa, atI_nat (j := 1) rfl, _, rfl, _, rfl, ?_⟩
    refine slT_to (k := g) (seqT_mono t2 sb) fun p H3 s3 sp => ?_
    rw [← List.map_take] at sp
    have dk3 := dk2.same s3
    have sm3 := (sm1.trans s2).trans (off_mono s3)
    refine ⟨p, ls.take g, rfl, sp, .ref k, rfl, .ref a, rfl, .ref a, room, ls, rfl, Dpm (sm3.trans (off_same k H3)) hv, _, _, rfl, rfl, k, _, n, rfl, by omega, by omega, dk3, fun c H4 c0 c1 dk4 s4 => ?_⟩
    refine ⟨_, _, rfl, rfl, by show 3 ≤ sizeLine; decide, fun t nt => ?_⟩
    have ntk := dk4.ne nt
    refine q (.ref t) _ (rt, g, c) (gk c c0 (by omega)) (dk4.same (same_new nt)) ((sm3.trans s4).trans (off_new nt)) ?_
    refine .tup (.inl (.inl (off_up ntk))) (.cons (.str _) (.cons (.int _) (.cons ?_ .nil)))
    show Dp K _ (.int ((ls.take g).sum + c)) (.int (c + pre ls g))
    rw [show (ls.take g).sum + c = c + pre ls g from Int.add_comm _ _]
    exact .int _
def sp_row (K : PySem.W.Frag) : Sp := fun vs H Q _ => ∃ (k : Addr) (v : V) (m : Int) (room : Int) (ls : List Int) (n : Nat), vs = [.ref k, v, .int m] ∧ 0 ≤ m ∧ m ≤ 200 ∧ Dp K (Off k H) v (shD room ls) ∧ ShOk room ls ∧ Dk k H (n + 1000) ∧
  ∀ c H' (r : List Push), (r.length : Int) ≤ m → (∀ p ∈ r, PuOk ls.length (room - ls.sum) p) → c ≠ k → H c = none → Dk k H' n → Same (Off k H) (Off k H') → Dp K (Off k H') (.ref c) (roD ls r) → Q (.ref c) H'
theorem noLs_row (ls : List Int) (r : List Push) : noLs (r.map (puD ls)) = true := noLs_all _ fun d hd => by
  obtain ⟨p, _, rfl⟩ := List.mem_map.mp hd
  exact noL_puD ls p
theorem off_two {k D : Addr} {H : Hp} {o : HO} : Same (Off D (Off k H)) (Off k (upd H D o)) := fun b x e => by
  unfold Off at e ⊢
  split at e
  · cases e
  · rename_i nD
    split at e
    · cases e
    · rename_i nk
      rw [if_neg nk, upd_ne nD]
      exact e
end PS

namespace PS
open PySem PySem.Spec PyProof.Rows L2
variable {P : Program} {w : World} {K : PySem.W.Frag} {mg : Str → Option Value} {base : Heap}
theorem ok_law_pushed (T : Tx K mg) : FnOk P w K mg base CX0 1 T.f_law_pushed T.fd_law_pushed ["shelf", "stand", "push"] (sp_pushed K) := by
  refine T.F_law_pushed.ok sc_law_pushed (fun vs H Q E h => ?_) (fun cdv A outer s H vs Q E hr h => ?_)
  · obtain ⟨_, _, _, _, _, _, _, _, rfl, _⟩ := h
    rfl
  · obtain ⟨v, u, t, room, ls, y, ⟨rt, g, b⟩, pl, rfl, hv, hu, ht, ri, n8, pk, q⟩ := h
    obtain ⟨a, ba, rfl, sa, sb⟩ := dp_shelf hv
    obtain ⟨c, x1, x2, x3, rfl, sc, h1, h2, h3⟩ := dp_three ht
    obtain ⟨d, rfl, sd⟩ := dp_tI hu
    have h1 : Dp K H x1 (.str (sideS rt)) := h1
    have h2 : Dp K H x2 (.int (g : Int)) := h2
    have h3 : Dp K H x3 (.int (b + pre ls g)) := h3
    cases dp_str h1
    cases dp_int h2
    cases dp_int h3
    refine ⟨_, (pss_cons (ps_asg (pv 2) (pg_tup rfl (pgs_cons (pg_name (i := 3) sc_law_pushed.nd rfl (.inl rfl)) (pgs_cons (pg_name (i := 4) sc_law_pushed.nd rfl (.inl rfl)) (pgs_cons (pg_name (i := 5) sc_law_pushed.nd rfl (.inl rfl)) pgs_nil)))))
      (pss_cons (ps_set (i := 6) sc_law_pushed.nd rfl (.inl rfl) (pe_callTy call_list_of (by rfl) T.n_list (by decide +kernel) (pa_cons (pv 1) pa_nil)))
      (pss_cons (ps_if (pt_cmpR op_eq (pv 3) pe_str (nomark _)) (pss_one (ps_for PassesOwn.never rfl (pi_range2 (by rfl) T.n_range (pa_cons (pv 4) (pa_cons (pe_callB call_len_seq (by rfl) T.n_len (by decide +kernel) (pa_cons (pv 6) pa_nil)) pa_nil))) (pg_name (i := 7) sc_law_pushed.nd rfl (.inl rfl))
      (pss_cons (ps_asg (pe_callB (call_max2 rfl) (by rfl) T.n_max (by decide +kernel) (pa_cons (pe_ix ix_list (pv 6) (pv 7) (fun _ _ => rfl)) (pa_cons (pv 5) pa_nil))) (pg_sub (pv 6) (pv 7) set_list))
      (pss_one (ps_set (i := 5) sc_law_pushed.nd rfl (.inl rfl) (pe_op op_add (pe_ix ix_list (pv 6) (pv 7) (fun _ _ => rfl)) (pe_ix ix_tup (pe_ix ix_tup (pv 0) pe_int (fun _ _ => rfl)) (pv 7) (fun _ _ => rfl)))))))) (pss_one (ps_for PassesOwn.never rfl (pi_range3 (by rfl) T.n_range (pa_cons (pe_op op_sub (pv 4) pe_int) (pa_cons (pe_un un_neg pe_int) (pa_cons (pe_un un_neg pe_int) pa_nil)))) (pg_name (i := 7) sc_law_pushed.nd rfl (.inl rfl))
      (pss_cons (ps_asg (pe_callB (call_min2 rfl) (by rfl) T.n_min (by decide +kernel) (pa_cons (pe_ix ix_list (pv 6) (pv 7) (fun _ _ => rfl)) (pa_cons (pe_op op_sub (pv 5) (pe_ix ix_tup (pe_ix ix_tup (pv 0) pe_int (fun _ _ => rfl)) (pv 7) (fun _ _ => rfl))) pa_nil))) (pg_sub (pv 6) (pv 7) set_list))
      (pss_one (ps_set (i := 5) sc_law_pushed.nd rfl (.inl rfl) (pe_ix ix_list (pv 6) (pv 7) (fun _ _ => rfl))))))))
      (pss_one (ps_ret (pe_callTy call_tuple_of (by rfl) T.n_tuple (by decide +kernel) (pa_cons (pv 6) pa_nil))))))), ?_⟩
    refine ⟨.ref c, rfl, c, _, rfl, sc, rfl, _, _, rfl, _, _, rfl, _, [], rfl, rfl, ?_⟩
    refine ⟨.ref d, rfl, d, _, rfl, .inr sd, fun l nl => ?_⟩
    refine ⟨_, rfl, rfl, _, rfl, ?_⟩
    cases rt with
    | true =>
      have hg := pk.g0 rfl
      simp only at hg
      rw [decide_eq_true (show V.str (sideS true) = V.str "right" from rfl)]
      refine iteT ?_
      have hlen : (iV (stL ls y)).length = ls.length := by rw [iV_len, stL_len]
      refine ⟨_, rfl, .ref l, rfl, l, _, rfl, .inl (.inl (.inl upd_same)), _, _, rfl, ⟨by omega, by omega, by omega, by rw [hlen]; omega⟩, ?_⟩
      refine for_range (lo := (g : Int)) (n := (((iV (stL ls y)).length : Int) - (g : Int)).toNat) (fun i σ H' => Same H H' ∧ H' l = some (.lst (iV (stL ls (zR g b y i)))) ∧ ∃ y7, σ = [some (.ref a), some (.ref d), some (.ref c), some (.str (sideS true)), some (.int (g : Nat)), some (.int (eR g b y i + pre ls (g + i))), some (.ref l), y7])
        ⟨same_new nl, ?_, none, ?_⟩ (fun i σ H' hi p => ?_) (fun σ H' p => ?_)
      · rw [upd_same]
        congr 3
        apply stL_congr
        intro j hj
        unfold zR
        rw [if_neg (by omega)]
      · rfl
      · obtain ⟨s1, hl, y7, rfl⟩ := p
        rw [hlen] at hi
        have hgi : g + i < ls.length := by omega
        have eat : (g : Int) + (i : Int) = ((g + i : Nat) : Int) := by omega
        have g1 := iV_get (stL_get (y := zR g b y i) hgi)
        have e1 : (if eR g b y i + pre ls (g + i) > zR g b y i (g + i) + pre ls (g + i) then eR g b y i + pre ls (g + i) else zR g b y i (g + i) + pre ls (g + i)) = max (y (g + i)) b + pre ls (g + i) := by
          rw [← zR_step ri hgi]
          split <;> omega
        refine ⟨.ref l, rfl, _, rfl, l, _, _, _, rfl, rfl, .inl (.inl hl), at_of eat g1, _, rfl, _, _, rfl, ?_⟩
        rw [e1]
        refine ⟨.ref l, rfl, _, rfl, l, _, _, g + i, rfl, rfl, hl, ixN_at eat (by rw [iV_len, stL_len]; exact hgi), ?_⟩
        rw [iV_set, zR_next hgi]
        have g2 := iV_get (stL_get (y := zR g b y (i + 1)) hgi)
        have e2 : zR g b y (i + 1) (g + i) = max (y (g + i)) b := by unfold zR; rw [if_pos (by omega)]
        have s2 : Same H (upd H' l (.lst (iV (stL ls (zR g b y (i + 1)))))) := fun b o hb => by
          rw [upd_ne (ne_of_none hb nl)]
          exact s1 b o hb
        refine ⟨.ref l, rfl, _, rfl, l, _, _, _, rfl, rfl, .inl (.inl upd_same), at_of eat g2, .ref a, rfl, a, _, 1, _, rfl, rfl, seqT_mono s2 sa, atI_nat (j := 1) rfl, _, rfl, ba, _, _, _, rfl, rfl, seqT_mono s2 sb, at_of eat (iV_get (List.getElem?_eq_getElem hgi)), _, _, rfl, rfl, s2, upd_same, some (.int ((g : Int) + (i : Int))), ?_⟩
        have e3 : eR g b y (i + 1) + pre ls (g + (i + 1)) = zR g b y (i + 1) (g + i) + pre ls (g + i) + ls[g + i] := by
          rw [e2, show g + (i + 1) = g + i + 1 from by omega, pre_succ hgi]
          unfold eR
          rw [if_neg (by omega), show g + (i + 1) - 1 = g + i from by omega]
          omega
        rw [e3]
        rfl
      · obtain ⟨s1, hl, y7, rfl⟩ := p
        refine ⟨.ref l, rfl, l, _, rfl, .inl ⟨.inl (.inl hl), fun t nt => ?_⟩⟩
        have e : stL ls (zR g b y (((iV (stL ls y)).length : Int) - (g : Int)).toNat) = stL ls (doP y (true, g, b)) := by
          rw [hlen]
          apply stL_congr
          intro j hj
          show zR g b y _ j = pR g b y j
          unfold zR pR
          by_cases h2 : g ≤ j
          · rw [if_pos h2, if_pos (by omega)]
          · rw [if_neg h2, if_neg (by omega)]
        rw [e]
        exact q _ _ (s1.trans (same_new nt)) (tI_dp (.inl (.inl upd_same)))
    | false =>
      have hg := pk.g1 rfl
      simp only at hg
      rw [decide_eq_false (show ¬ V.str (sideS false) = V.str "right" from by decide +kernel)]
      refine iteF ?_
      refine ⟨_, rfl, _, _, rfl, rfl, 1, rfl, 1, rfl, _, _, _, _, rfl, RgC.neg (by omega) (by omega) (by omega) (by omega), ?_⟩
      have en : ((g : Int) - 1 - -1).toNat = g := by omega
      show ∃ W, _
      rw [en]
      refine for_rangeC (lo := (g : Int) - 1) (c := -1) (n := g) (fun i σ H' => Same H H' ∧ H' l = some (.lst (iV (stL ls (zL g b y i)))) ∧ ∃ y7, σ = [some (.ref a), some (.ref d), some (.ref c), some (.str (sideS false)), some (.int (g : Nat)), some (.int (eL g b y i + pre ls (g - i))), some (.ref l), y7])
        ⟨same_new nl, ?_, none, ?_⟩ (fun i σ H' hi p => ?_) (fun σ H' p => ?_)
      · rw [upd_same]
        congr 3
        apply stL_congr
        intro j hj
        unfold zL
        rw [if_neg (by omega)]
      · rfl
      · obtain ⟨s1, hl, y7, rfl⟩ := p
        have hgi : g - 1 - i < ls.length := by omega
        have eat : (g : Int) - 1 + (i : Nat) * (-1) = ((g - 1 - i : Nat) : Int) := by omega
        have g1 := iV_get (stL_get (y := zL g b y i) hgi)
        have epre : pre ls (g - i) = pre ls (g - 1 - i) + ls[g - 1 - i] := by
          have := pre_succ hgi
          rw [show g - 1 - i + 1 = g - i from by omega] at this
          exact this
        have e1 : (if eL g b y i + pre ls (g - i) - ls[g - 1 - i] < zL g b y i (g - 1 - i) + pre ls (g - 1 - i) then eL g b y i + pre ls (g - i) - ls[g - 1 - i] else zL g b y i (g - 1 - i) + pre ls (g - 1 - i)) = min (y (g - 1 - i)) b + pre ls (g - 1 - i) := by
          rw [← zL_step ri hg.2 hi, epre]
          split <;> omega
        refine ⟨.ref l, rfl, _, rfl, l, _, _, _, rfl, rfl, .inl (.inl hl), at_of eat g1, _, rfl, .ref a, rfl, a, _, 1, _, rfl, rfl, seqT_mono s1 sa, atI_nat (j := 1) rfl, _, rfl, ba, _, _, _, rfl, rfl, seqT_mono s1 sb, at_of eat (iV_get (List.getElem?_eq_getElem hgi)), _, _, rfl, rfl, _, _, rfl, ?_⟩
        rw [e1]
        refine ⟨.ref l, rfl, _, rfl, l, _, _, g - 1 - i, rfl, rfl, hl, ixN_at eat (by rw [iV_len, stL_len]; exact hgi), ?_⟩
        rw [iV_set, zL_next hg.2 hi]
        have g2 := iV_get (stL_get (y := zL g b y (i + 1)) hgi)
        have e2 : zL g b y (i + 1) (g - 1 - i) = min (y (g - 1 - i)) b := by unfold zL; rw [if_pos (by omega)]
        have s2 : Same H (upd H' l (.lst (iV (stL ls (zL g b y (i + 1)))))) := fun b o hb => by
          rw [upd_ne (ne_of_none hb nl)]
          exact s1 b o hb
        refine ⟨.ref l, rfl, _, rfl, l, _, _, _, rfl, rfl, .inl (.inl upd_same), at_of eat g2, s2, upd_same, some (.int ((g : Int) - 1 + (i : Nat) * (-1))), ?_⟩
        have e3 : eL g b y (i + 1) + pre ls (g - (i + 1)) = zL g b y (i + 1) (g - 1 - i) + pre ls (g - 1 - i) := by
          rw [e2, show g - (i + 1) = g - 1 - i from by omega]
          unfold eL
          rw [if_neg (by omega), show g - (i + 1) = g - 1 - i from by omega]
        rw [e3]
        rfl
      · obtain ⟨s1, hl, y7, rfl⟩ := p
        refine ⟨.ref l, rfl, l, _, rfl, .inl ⟨.inl (.inl hl), fun t nt => ?_⟩⟩
        have e : stL ls (zL g b y g) = stL ls (doP y (false, g, b)) := by
          apply stL_congr
          intro j hj
          show zL g b y g j = pL g b y j
          unfold zL pL
          by_cases h2 : j < g
          · rw [if_pos h2, if_pos (by omega)]
          · rw [if_neg h2, if_neg (by omega)]
        rw [e]
        exact q _ _ (s1.trans (same_new nt)) (tI_dp (.inl (.inl upd_same)))
/-! ### the law's own is-it-a-stand -/
def standH (room : Int) : Int → List PyData → List Int → Bool
  | e, d :: ds, l :: ls => match d with
    | .int i => if e ≤ i then (if i ≤ room - l then standH room (i + l) ds ls else false) else false
    | _ => false
  | _, _, _ => true
def isStandB (room : Int) (ls : List Int) (d : PyData) : Bool := match d with
  | .tuple ds => if (ds.length : Int) = ls.length then standH room 0 ds ls else false
  | _ => false
theorem standGH {room : Int} : ∀ (ds : List PyData) (ls : List Int) (e : Int), ds.length = ls.length → (∀ l ∈ ls, 0 ≤ l) → (standG room e ds ls = true ↔ (standH room e ds ls = true ∧ (ls = [] → e ≤ room))) ∧ (standG room e ds ls = true → e ≤ room)
  | [], [], e, _, _ => by simp [standG, standH]
  | [], l :: ls, e, h, _ => by simp at h
  | d :: ds, [], e, h, _ => by simp at h
  | d :: ds, l :: ls, e, h, hl => by
    have hlen : ds.length = ls.length := by simpa using h
    have hl0 := hl l (by simp)
    cases d with
    | int i =>
      have ih := standGH (room := room) ds ls (i + l) hlen (fun x hx => hl x (by simp [hx]))
      have e1 : standG room e (.int i :: ds) (l :: ls) = if i < e then false else standG room (i + l) ds ls := rfl
      have e2 : standH room e (.int i :: ds) (l :: ls) = if e ≤ i then (if i ≤ room - l then standH room (i + l) ds ls else false) else false := rfl
      rw [e1, e2]
      by_cases h1 : i < e
      · rw [if_pos h1, if_neg (by omega)]
        simp
      · rw [if_neg h1, if_pos (by omega)]
        by_cases h2 : i ≤ room - l
        · rw [if_pos h2]
          refine ⟨⟨fun z => ⟨(ih.1.mp z).1, by simp⟩, fun z => ih.1.mpr ⟨z.1, fun _ => by omega⟩⟩, fun z => by omega⟩
        · rw [if_neg h2]
          refine ⟨⟨fun z => ?_, fun z => by simp at z⟩, fun z => ?_⟩
          · have := ih.2 z
            omega
          · have := ih.2 z
            omega
    | _ =>
      refine ⟨⟨fun z => ?_, fun z => ?_⟩, fun z => ?_⟩
      · cases z
      · cases z.1
      · cases z
theorem isStandB_eq {room : Int} {ls : List Int} (sh : ShOk room ls) (d : PyData) : isStandB room ls d = isStand room ls d := by
  unfold isStandB isStand
  cases d with
  | tuple ds =>
    simp only
    by_cases e : (ds.length : Int) = ls.length
    · rw [if_pos e, if_pos e]
      have h := (standGH (room := room) ds ls 0 (by omega) (fun l hl => by have := sh.l1 l hl; omega)).1
      have hne : ls ≠ [] := fun z => by
        have := sh.n1
        rw [z] at this
        simp at this
      cases e1 : standG room 0 ds ls with
      | true => exact (h.mp e1).1
      | false =>
        cases e2 : standH room 0 ds ls with
        | false => rfl
        | true =>
          have := h.mpr ⟨e2, fun z => absurd z hne⟩
          rw [e1] at this
          cases this
    · rw [if_neg e, if_neg e]
  | _ => rfl
def sp_law_is_stand (K : PySem.W.Frag) : Sp := fun vs H Q _ => ∃ v u room ls d, vs = [v, u] ∧ Dp K H v (shD room ls) ∧ ShOk room ls ∧ Dp K H u d ∧ RB H Q (isStand room ls d)
theorem ok_law_is_stand (T : Tx K mg) : FnOk P w K mg base CX0 2 T.f_law_is_stand T.fd_law_is_stand ["shelf", "thing"] (sp_law_is_stand K) := by
  have G_law_whole := ok_law_whole (P := P) (w := w) (base := base) T
  refine T.F_law_is_stand.ok sc_law_is_stand (fun vs H Q E h => ?_) (fun cdv A outer s H vs Q E hr h => ?_)
  · obtain ⟨v, u, _, _, d, rfl, _⟩ := h
    rfl
  · obtain ⟨v, u, room, ls, d, rfl, hv, sh, hd, q⟩ := h
    rw [← isStandB_eq sh] at q
    obtain ⟨a, b, rfl, sa, sb⟩ := dp_shelf hv
    refine ⟨_, (pss_cons (ps_if (PW.pt (pw_or (pt_not (pt_val (pe_callB call_isD (by rfl) T.n_isinstance (by decide +kernel) (pa_cons (pv 1) (pa_cons (pe_bltn (v := .ty "tuple") (by rfl) T.n_tuple (by decide +kernel) rfl) pa_nil))))) (pw_or1 (pt_cmpR op_ne (pe_callB call_len_seq (by rfl) T.n_len (by decide +kernel) (pa_cons (pv 1) pa_nil)) (pe_callB call_len_seq (by rfl) T.n_len (by decide +kernel) (pa_cons (pe_ix ix_tup (pv 0) pe_int (fun _ _ => rfl)) pa_nil)) (nomark _))))) (pss_one (ps_ret pe_bl)) pss_nil)
      (pss_cons (ps_set (i := 2) sc_law_is_stand.nd rfl (.inl rfl) pe_int)
      (pss_cons (ps_for PassesOwn.never rfl (pi_enum1 (by rfl) T.n_enumerate (pa_cons (pv 1) pa_nil)) (pg_tup rfl (pgs_cons (pg_name (i := 3) sc_law_is_stand.nd rfl (.inl rfl)) (pgs_cons (pg_name (i := 4) sc_law_is_stand.nd rfl (.inl rfl)) pgs_nil)))
      (pss_cons (ps_if (PW.pt (pw_or (pt_not (pt_val (pe_call (G_law_whole.mono (by first | decide | omega)) hr (by rfl) T.g_law_whole T.F_law_whole.kp T.b_law_whole .nil pass0 (pa_cons (pv 4) pa_nil)))) (pw_or1 (pt_not (pt_chain op_le op_le (pv 2) (pv 4) (pe_op op_sub (pe_ix ix_tup (pv 0) pe_int (fun _ _ => rfl)) (pe_ix ix_tup (pe_ix ix_tup (pv 0) pe_int (fun _ _ => rfl)) (pv 3) (fun _ _ => rfl)))))))) (pss_one (ps_ret pe_bl)) pss_nil)
      (pss_one (ps_set (i := 2) sc_law_is_stand.nd rfl (.inl rfl) (pe_op op_add (pv 4) (pe_ix ix_tup (pe_ix ix_tup (pv 0) pe_int (fun _ _ => rfl)) (pv 3) (fun _ _ => rfl)))))))
      (pss_one (ps_ret pe_bl))))), ?_⟩
    refine ⟨u, rfl, u, _, d, rfl, hd, kTuple d, _, rfl, ?_⟩
    rw [isA_tuple]
    cases hd with
    | @tup c xs ds sc al =>
      have hxl := dpAll_len al
      refine iteF ⟨_, rfl, c, xs, rfl, .inr sc, .ref a, rfl, a, _, 1, _, rfl, rfl, sa, atI_nat (j := 1) rfl, b, _, rfl, .inr sb, rfl, _, rfl, ?_⟩
      rw [hxl, iV_len]
      have q : RB H Q (if (ds.length : Int) = ls.length then standH room 0 ds ls else false) := q
      by_cases el : (ds.length : Int) = ls.length
      · rw [if_pos el] at q
        rw [decide_eq_true (show V.int (ds.length : Int) = V.int (ls.length : Int) by rw [el])]
        refine iteF ?_
        refine ⟨_, rfl, false, c, xs, rfl, sc, ?_⟩
        refine for_it (walk_1 (n := ls.length) (xs := xs) (by omega)) (fun i σ H' => Same H H' ∧ ∃ e y3 y4, σ = [some (.ref a), some (.ref c), some (.int e), y3, y4] ∧ standH room e (ds.drop i) (ls.drop i) = standH room 0 ds ls)
          ⟨Same.refl H, 0, none, none, rfl, rfl⟩ (fun i σ H' _ p => seqT_mono p.1 sc) (fun i x σ H' H2 hi p yy => ?_) (fun σ H' p => ?_)
        · obtain ⟨s2, e0, y3, y4, rfl, eq⟩ := p
          obtain ⟨Tt, x, rfl, nT, rfl, hx⟩ := yy
          have s3 : Same H (upd H' Tt (.tup [.int (i : Nat), x])) := s2.trans (same_new nT)
          obtain ⟨dx, e1, e2⟩ := dpAll_get al hx
          have hd1 : i < ds.length := by omega
          have e1' : ds[i] = dx := by
            rw [List.getElem?_eq_getElem hd1] at e1
            exact Option.some.inj e1
          rw [List.drop_eq_getElem_cons hd1, List.drop_eq_getElem_cons hi, e1'] at eq
          have hli : (iV ls)[i]? = some (.int ls[i]) := iV_get (List.getElem?_eq_getElem hi)
          refine ⟨Tt, _, rfl, .inl (.inl upd_same), rfl, _, _, rfl, _, [], rfl, rfl, ?_⟩
          refine ⟨x, rfl, x, dx, rfl, Dpm s3 e2, _, rfl, ?_⟩
          cases e2 with
          | int k =>
            have eq : (if e0 ≤ k then (if k ≤ room - ls[i] then standH room (k + ls[i]) (ds.drop (i + 1)) (ls.drop (i + 1)) else false) else false) = standH room 0 ds ls := eq
            refine iteF ⟨_, rfl, _, rfl, _, _, rfl, rfl, _, rfl, ?_⟩
            by_cases h1 : e0 ≤ k
            · rw [if_pos h1] at eq
              rw [decide_eq_true h1]
              refine iteT ⟨.ref a, rfl, a, _, 0, _, rfl, rfl, seqT_mono s3 sa, atI_nat (j := 0) rfl, .ref a, rfl, a, _, 1, _, rfl, rfl, seqT_mono s3 sa, atI_nat (j := 1) rfl, _, rfl, b, _, _, _, rfl, rfl, seqT_mono s3 sb, atI_nat hli, _, _, rfl, rfl, _, _, rfl, rfl, _, rfl, ?_⟩
              by_cases h2 : k ≤ room - ls[i]
              · rw [if_pos h2] at eq
                rw [decide_eq_true h2]
                refine iteF ⟨_, rfl, .ref a, rfl, a, _, 1, _, rfl, rfl, seqT_mono s3 sa, atI_nat (j := 1) rfl, _, rfl, b, _, _, _, rfl, rfl, seqT_mono s3 sb, atI_nat hli, _, _, rfl, rfl, s3, _, _, _, rfl, eq⟩
              · rw [if_neg h2] at eq
                rw [← eq] at q
                rw [decide_eq_false h2]
                exact iteT (q _ s3)
            · rw [if_neg h1] at eq
              rw [← eq] at q
              rw [decide_eq_false h1]
              exact iteF ⟨_, rfl, iteT (q _ s3)⟩
          | _ =>
            have eq : false = standH room 0 ds ls := eq
            rw [← eq] at q
            exact iteT (q _ s3)
        · obtain ⟨s2, e0, y3, y4, rfl, eq⟩ := p
          rw [List.drop_of_length_le (by omega), List.drop_of_length_le (Nat.le_refl _)] at eq
          have eq : true = standH room 0 ds ls := eq
          rw [← eq] at q
          exact q _ s2
      · rw [if_neg el] at q
        rw [decide_eq_false (show ¬ V.int (ds.length : Int) = V.int (ls.length : Int) from fun z => el (V.int.inj z))]
        exact iteT (q H (Same.refl H))
    | _ => exact iteT (q H (Same.refl H))
end PS

namespace PS
open PySem PySem.Spec PyProof.Rows L2
variable {P : Program} {w : World} {K : PySem.W.Frag} {mg : Str → Option Value} {base : Heap}
theorem rep_const (n : Nat) (c : Int) : (List.replicate n [V.int c]).flatten = iV ((List.range n).map fun _ => c) := by
  induction n with
  | zero => rfl
  | succ n ih =>
    rw [List.replicate_succ, List.flatten_cons, ih]
    rw [List.map_const', List.map_const', List.length_range, List.length_range]
    simp [List.replicate_succ]
def sp_ends (K : PySem.W.Frag) : Sp := fun vs H Q _ => ∃ v room ls, vs = [v] ∧ Dp K H v (shD room ls) ∧ ls.length ≤ 8 ∧
  ∀ p H' u1 u2, Same H H' → H p = none → H' p = some (.lst [u1, u2]) → Dp K H' u1 (tI (stL ls (fun _ => 0))) → Dp K H' u2 (tI (stL ls (fun _ => room - ls.sum))) → Q (.ref p) H'
theorem ok_law_ends (T : Tx K mg) : FnOk P w K mg base CX0 2 T.f_law_ends T.fd_law_ends ["shelf"] (sp_ends K) := by
  have G_law_stand_of := stand_of_any (P := P) (w := w) (base := base) true T
  have G_law_play := ok_law_play (P := P) (w := w) (base := base) T
  refine T.F_law_ends.ok sc_law_ends (fun vs H Q E h => ?_) (fun cdv A outer s H vs Q E hr h => ?_)
  · obtain ⟨v, _, _, rfl, _⟩ := h
    rfl
  · obtain ⟨v, room, ls, rfl, hv, n8, q⟩ := h
    obtain ⟨a, b, rfl, sa, sb⟩ := dp_shelf hv
    refine ⟨_, (pss_cons (ps_set (i := 1) sc_law_ends.nd rfl (.inl rfl) (pe_callB call_len_seq (by rfl) T.n_len (by decide +kernel) (pa_cons (pe_ix ix_tup (pv 0) pe_int (fun _ _ => rfl)) pa_nil)))
      (pss_one (ps_ret (pe_lst (pa_cons (pe_call (G_law_stand_of.mono (by first | decide | omega)) hr (by rfl) T.g_law_stand_of T.F_law_stand_of.kp T.b_law_stand_of .nil pass0 (pa_cons (pv 0) (pa_cons (pe_op op_rep (pe_lst (pa_cons pe_int pa_nil)) (pv 1)) pa_nil))) (pa_cons (pe_call (G_law_stand_of.mono (by first | decide | omega)) hr (by rfl) T.g_law_stand_of T.F_law_stand_of.kp T.b_law_stand_of .nil pass0 (pa_cons (pv 0) (pa_cons (pe_op op_rep (pe_lst (pa_cons (pe_call (G_law_play.mono (by first | decide | omega)) hr (by rfl) T.g_law_play T.F_law_play.kp T.b_law_play .nil pass0 (pa_cons (pv 0) pa_nil)) pa_nil)) (pv 1)) pa_nil))) pa_nil)))))), ?_⟩
    refine ⟨.ref a, rfl, a, _, 1, _, rfl, rfl, sa, atI_nat (j := 1) rfl, b, _, rfl, .inr sb, ?_⟩
    rw [iV_len]
    refine ⟨.ref a, rfl, by show 1 ≤ sizeLine; decide, fun z nz => ?_⟩
    refine ⟨_, rfl, z, _, _, rfl, rfl, upd_same, by omega, by omega, ?_, fun z1 nz1 => ?_⟩
    · exact Nat.le_of_lt (small1000 (by simp; omega))
    rw [show ((ls.length : Nat) : Int).toNat = ls.length from by omega, rep_const]
    have s1 := (same_new (o := .lst [.int 0]) nz).trans (same_new (o := .lst (iV ((List.range ls.length).map fun _ => (0 : Int)))) nz1)
    refine ⟨.ref a, z1, room, ls, fun _ => 0, rfl, Dpm s1 hv, n8, .inl (.inl upd_same), fun u1 H2 s2 h2 => ?_⟩
    have s12 := s1.trans s2
    refine ⟨.ref a, rfl, .ref a, rfl, .ref a, room, ls, rfl, Dpm s12 hv, by show 1 ≤ sizeLine; decide, fun z3 nz3 => ?_⟩
    refine ⟨_, rfl, z3, _, _, rfl, rfl, upd_same, by omega, by omega, ?_, fun z4 nz4 => ?_⟩
    · exact Nat.le_of_lt (small1000 (by simp; omega))
    rw [show ((ls.length : Nat) : Int).toNat = ls.length from by omega, rep_const]
    have s3 := (same_new (o := .lst [.int (room - ls.sum)]) nz3).trans (same_new (o := .lst (iV ((List.range ls.length).map fun _ => room - ls.sum))) nz4)
    refine ⟨.ref a, z4, room, ls, fun _ => room - ls.sum, rfl, Dpm (s12.trans s3) hv, n8, .inl (.inl upd_same), fun u2 H4 s4 h4 => ?_⟩
    refine ⟨by show 2 ≤ sizeLine; decide, fun p np => ?_⟩
    have sp := same_new (o := .lst [u1, u2]) np
    have sA := (s12.trans s3).trans s4
    exact q p _ u1 u2 (sA.trans sp) (sA.free np) upd_same (Dpm ((s3.trans s4).trans sp) h2) (Dpm sp h4)
end PS

namespace PS
open PySem PySem.Spec PyProof.Rows L2
variable {P : Program} {w : World} {K : PySem.W.Frag} {mg : Str → Option Value} {base : Heap}
/-! ### a part of the heap, and what is new beside it -/
def nw (k : Addr) (Z H H' : Hp) : Hp := fun b => if (H b).isSome = true then Z b else Off k H' b
section
variable {k : Addr} {Z H H1 H2 : Hp}
theorem nw_mono (s : Same (Off k H1) (Off k H2)) : Same (nw k Z H H1) (nw k Z H H2) := fun b o h => by
  unfold nw at h ⊢
  split at h
  · rename_i e
    rw [if_pos e]
    exact h
  · rename_i e
    rw [if_neg e]
    exact s b o h
theorem nw_new {p : Addr} {o : HO} (np : H p = none) (h : Off k H1 p = some o) : nw k Z H H1 p = some o := by
  unfold nw
  rw [if_neg (by rw [np]; simp)]
  exact h
theorem nw_old (sz : Same Z (Off k H)) : Same Z (nw k Z H H1) := fun b o h => by
  unfold nw
  rw [if_pos]
  · exact h
  · rw [off_same k H _ _ (sz b o h)]
    rfl
theorem nw_off (sz : Same Z (Off k H)) (s : Same (Off k H) (Off k H1)) : Same (nw k Z H H1) (Off k H1) := fun b o h => by
  unfold nw at h
  split at h
  · exact s b o (sz b o h)
  · exact h
theorem nw_in {l : Addr} {H3 H4 : Hp} (sH : Same (Off k H) (Off k H2)) (dk : ∀ n o, n = k → H n = some o → ∃ o', H2 n = some o') (hl : (H2 l).isSome = true) (s3 : Same (Off k H2) (Off k H3)) (h4 : ∀ b, b ≠ l → Off k H3 b = Off k H4 b) : Same (nw k (Off l (nw k Z H H2)) H2 H3) (nw k Z H H4) := fun b o h => by
  have h : (if (H2 b).isSome = true then Off l (nw k Z H H2) b else Off k H3 b) = some o := h
  by_cases e : (H2 b).isSome = true
  · rw [if_pos e] at h
    have nb : b ≠ l := fun z => by
      subst z
      unfold Off at h
      simp at h
    have h5 := off_same l _ _ _ h
    have h6 := nw_mono (Z := Z) (H := H) s3 b o h5
    unfold nw at h6 ⊢
    split at h6
    · rename_i e2
      rw [if_pos e2]
      exact h6
    · rename_i e2
      rw [if_neg e2, ← h4 b nb]
      exact h6
  · rw [if_neg e] at h
    have nb : b ≠ l := fun z => by
      subst z
      exact e hl
    have hb : ¬ (H b).isSome = true := fun z => by
      obtain ⟨o2, ho2⟩ := Option.isSome_iff_exists.mp z
      by_cases bk : b = k
      · obtain ⟨o3, ho3⟩ := dk b o2 bk ho2
        rw [ho3] at e
        simp at e
      · have := off_same k H2 _ _ (sH b o2 (off_at bk ho2))
        rw [this] at e
        simp at e
    unfold nw
    rw [if_neg hb, ← h4 b nb]
    exact h
end
/-! ### data of bounded size -/
def Gd : Nat → Nat → PyData → Prop
  | 0, _, .list _ => False
  | 0, _, .tuple _ => False
  | m + 1, N, .list ds => ds.length ≤ 300 + N ∧ ∀ x ∈ ds, Gd m N x
  | m + 1, N, .tuple ds => ds.length ≤ 300 + N ∧ ∀ x ∈ ds, Gd m N x
  | _, N, .int i => i.natAbs ≤ 2 ^ 200 + N
  | _, _, .dict _ => False
  | _, _, .none => True
  | _, _, .bool _ => True
  | _, _, .str _ => True
theorem Gd.none {m N : Nat} : Gd m N .none := by cases m <;> exact True.intro
theorem Gd.bool {m N : Nat} {b : Bool} : Gd m N (.bool b) := by cases m <;> exact True.intro
theorem Gd.str {m N : Nat} {x : Str} : Gd m N (.str x) := by cases m <;> exact True.intro
theorem Gd.int {m N : Nat} {i : Int} (h : i.natAbs ≤ 2 ^ 200 + N) : Gd m N (.int i) := by cases m <;> exact h
theorem Gd.of_int {m N : Nat} {i : Int} (h : Gd m N (.int i)) : i.natAbs ≤ 2 ^ 200 + N := by cases m <;> exact h
theorem Gd.mono {N N' : Nat} (hN : N ≤ N') : ∀ {m m' : Nat} {d : PyData}, m ≤ m' → Gd m N d → Gd m' N' d := by
  intro m
  induction m with
  | zero =>
    intro m' d hm h
    cases d with
    | none => exact .none
    | bool b => exact .bool
    | str x => exact .str
    | int i => exact .int (Nat.le_trans (Gd.of_int h) (by omega))
    | list ds => exact h.elim
    | tuple ds => exact h.elim
    | dict ds => exact h.elim
  | succ m ih =>
    intro m' d hm h
    obtain ⟨m2, rfl⟩ : ∃ m2, m' = m2 + 1 := ⟨m' - 1, by omega⟩
    cases d with
    | none => exact .none
    | bool b => exact .bool
    | str x => exact .str
    | int i => exact .int (Nat.le_trans (Gd.of_int h) (by omega))
    | list ds => exact ⟨Nat.le_trans h.1 (by omega), fun x hx => ih (by omega) (h.2 x hx)⟩
    | tuple ds => exact ⟨Nat.le_trans h.1 (by omega), fun x hx => ih (by omega) (h.2 x hx)⟩
    | dict ds => exact h.elim
theorem Gd.depth {N : Nat} : ∀ {m : Nat} {d : PyData}, Gd m N d → d.depth ≤ m := by
  intro m
  induction m with
  | zero =>
    intro d h
    cases d with
    | list ds => exact h.elim
    | tuple ds => exact h.elim
    | dict ds => exact h.elim
    | _ => simp [PyData.depth]
  | succ m ih =>
    intro d h
    cases d with
    | list ds =>
      rw [PyData.depth]
      have := depthAll_le ds fun x hx => ih (h.2 x hx)
      omega
    | tuple ds =>
      rw [PyData.depth]
      have := depthAll_le ds fun x hx => ih (h.2 x hx)
      omega
    | dict ds => exact h.elim
    | _ => simp [PyData.depth]
theorem dpAll_set {H : Hp} {u : V} {d : PyData} (h : Dp K H u d) : ∀ {ds : List PyData} {vs : List V} (j : Nat), DpAll K H vs ds → DpAll K H (vs.set j u) (ds.set j d)
  | [], _, j, a => by cases a; exact .nil
  | x :: ds, _, j, a => by
    cases a with
    | cons h1 h2 =>
      cases j with
      | zero => exact .cons h h2
      | succ j => exact .cons h1 (dpAll_set h j h2)
theorem dpAll_rev {H : Hp} : ∀ {ds : List PyData} {vs : List V}, DpAll K H vs ds → DpAll K H vs.reverse ds.reverse
  | [], _, h => by cases h; exact .nil
  | d :: ds, _, h => by
    cases h with
    | cons h1 h2 =>
      rw [List.reverse_cons, List.reverse_cons]
      exact dpAll_app (dpAll_rev h2) (.cons h1 .nil)
def sp_spoilt (K : PySem.W.Frag) (M : Nat) : Sp := fun vs H Q _ => ∃ (m : Nat) (k : Addr) (v : V) (d : PyData) (Z : Hp) (N n : Nat), M = m + 1 ∧ vs = [.ref k, v] ∧ Same Z (Off k H) ∧ Dp K Z v d ∧ Gd m N d ∧ N ≤ 500 ∧ Dk k H (n + 3 * (m + 1)) ∧
  ∀ u H' d', Gd m (N + 1) d' → Dk k H' n → Same (Off k H) (Off k H') → Dp K (nw k Z H H') u d' → Q u H'
/-- one of several, by a draw -/
theorem drawn_at {k l : Addr} {H H2 : Hp} {xs : List V} {r : Int} {c : Nat} (hl : Off k H l = some (.lst xs)) (o : Same (Off k H) (Off k H2)) (r0 : 0 ≤ r) (r1 : r < (c : Int)) (hc : xs.length = c) : ∃ x, x ∈ xs ∧ SqL K H2 l xs ∧ atI xs r = some x := by
  have hr : r.toNat < xs.length := by omega
  exact ⟨xs[r.toNat], List.getElem_mem hr, .inl (.inl (off_same k H2 _ _ (o _ _ hl))), at_of (j := r.toNat) (by omega) (List.getElem?_eq_getElem hr)⟩
/-! ### in the part -/
section
variable {k : Addr} {Z H H1 : Hp} {Q : VK}
theorem free_back (o : Same (Off k H) (Off k H1)) (hk : ∃ x, H1 k = some x) {p : Addr} (np : H1 p = none) : H p = none ∧ p ≠ k := by
  have pk : p ≠ k := fun z => by
    obtain ⟨x, hx⟩ := hk
    rw [z, hx] at np
    cases np
  refine ⟨?_, pk⟩
  cases e : H p with
  | none => rfl
  | some x =>
    have := off_back o pk e
    rw [np] at this
    cases this
theorem nw_H (sz : Same Z (Off k H)) (o : Same (Off k H) (Off k H1)) : Same (nw k Z H H1) H1 := (nw_off sz o).trans (off_same k H1)
theorem slT_to' {a : Addr} {xs : List V} {n : Nat} (sz : Same Z (Off k H)) (o : Same (Off k H) (Off k H1)) (hk : ∃ x, H1 k = some x) (s : SqT K (nw k Z H H1) a xs)
    (q : ∀ p H', Same H1 H' → SqT K (nw k Z H H') p (xs.take n) → Q (.ref p) H') : rSlA K (.ref a) none (some (n : Int)) H1 Q := by
  refine ⟨a, xs, rfl, seqT_mono (nw_H sz o) s, fun h => ?_, fun h p np => ?_⟩
  · have e : xs.take n = xs := List.take_of_length_le (by
      have := h.2
      rw [HT.sIx_nat] at this
      omega)
    exact q a H1 (Same.refl H1) (by rw [e]; exact s)
  · rw [cut_to]
    have fb := free_back o hk np
    exact q p _ (same_new np) (.inl (.inl (nw_new fb.1 (off_up fb.2))))
theorem slT_from' {a : Addr} {xs : List V} {n : Nat} (sz : Same Z (Off k H)) (o : Same (Off k H) (Off k H1)) (hk : ∃ x, H1 k = some x) (s : SqT K (nw k Z H H1) a xs)
    (q : ∀ p H', Same H1 H' → SqT K (nw k Z H H') p (xs.drop n) → Q (.ref p) H') : rSlA K (.ref a) (some (n : Int)) none H1 Q := by
  refine ⟨a, xs, rfl, seqT_mono (nw_H sz o) s, fun h => ?_, fun h p np => ?_⟩
  · have e : xs.drop n = xs := by
      have := h.1
      rw [HT.sIx_nat] at this
      by_cases hn : n = 0
      · subst hn; rfl
      · have : xs.length = 0 := by omega
        rw [List.length_eq_zero_iff.mp this]; simp
    exact q a H1 (Same.refl H1) (by rw [e]; exact s)
  · rw [cut_from]
    have fb := free_back o hk np
    exact q p _ (same_new np) (.inl (.inl (nw_new fb.1 (off_up fb.2))))
theorem catA' {a b : Addr} {xs ys : List V} (sz : Same Z (Off k H)) (o : Same (Off k H) (Off k H1)) (hk : ∃ x, H1 k = some x) (s1 : SqT K (nw k Z H H1) a xs) (s2 : SqT K (nw k Z H H1) b ys) (hl : xs.length + ys.length ≤ sizeLine)
    (q : ∀ p H', Same H1 H' → SqT K (nw k Z H H') p (xs ++ ys) → Q (.ref p) H') : rCatA K (.ref a) (.ref b) H1 Q := by
  refine ⟨a, b, xs, ys, rfl, rfl, seqT_mono (nw_H sz o) s1, seqT_mono (nw_H sz o) s2, hl, fun e => ?_, fun _ e => ?_, fun _ _ p np => ?_⟩
  · subst e
    exact q b H1 (Same.refl _) s2
  · subst e
    exact q a H1 (Same.refl _) (by rw [List.append_nil]; exact s1)
  · have fb := free_back o hk np
    exact q p _ (same_new np) (.inl (.inl (nw_new fb.1 (off_up fb.2))))
end
def mkB (b : Bool) (ds : List PyData) : PyData := if b = true then .list ds else .tuple ds
theorem seq_of {Z : Hp} {v : V} {d : PyData} {m N : Nat} (hv : Dp K Z v d) (g : Gd m N d) (h : isTL d = true) : ∃ b a xs ds m2, v = .ref a ∧ SqK b K Z a xs ∧ DpAll K Z xs ds ∧ d = mkB b ds ∧ m = m2 + 1 ∧ ds.length ≤ 300 + N ∧ ∀ x ∈ ds, Gd m2 N x := by
  cases d with
  | list ds =>
    obtain ⟨a, xs, rfl, sq, al⟩ := dp_lst hv
    cases m with
    | zero => exact g.elim
    | succ m2 => exact ⟨true, a, xs, ds, m2, rfl, sq, al, rfl, rfl, g.1, g.2⟩
  | tuple ds =>
    obtain ⟨a, xs, rfl, sq, al⟩ := dp_tup hv
    cases m with
    | zero => exact g.elim
    | succ m2 => exact ⟨false, a, xs, ds, m2, rfl, sq, al, rfl, rfl, g.1, g.2⟩
  | _ => simp [isTL] at h
theorem sqK_mono {b : Bool} {H H' : Hp} {a : Addr} {xs : List V} (s : Same H H') (h : SqK b K H a xs) : SqK b K H' a xs := by
  cases b
  · exact seqT_mono s h
  · exact s.seq h
theorem sqK_or {b : Bool} {H : Hp} {a : Addr} {xs : List V} (h : SqK b K H a xs) : SqL K H a xs ∨ SqT K H a xs := by
  cases b
  · exact .inr h
  · exact .inl h
theorem mkB_dp {b : Bool} {H : Hp} {a : Addr} {xs : List V} {ds : List PyData} (h : SqK b K H a xs) (al : DpAll K H xs ds) : Dp K H (.ref a) (mkB b ds) := by
  cases b
  · exact .tup h al
  · exact .lst h al
theorem mkB_gd {b : Bool} {m N : Nat} {ds : List PyData} (h : ds.length ≤ 300 + N) (g : ∀ x ∈ ds, Gd m N x) : Gd (m + 1) N (mkB b ds) := by
  cases b <;> exact ⟨h, g⟩
theorem isT_mkB {b : Bool} {ds : List PyData} : isT (mkB b ds) = !b := by cases b <;> rfl
theorem log_small {i : Int} (h : i.natAbs ≤ 2 ^ 200 + 500) : i.natAbs.log2 < 1920 := by
  by_cases e : i.natAbs = 0
  · rw [e]; decide
  · rw [Nat.log2_lt e]
    exact Nat.lt_of_le_of_lt h (by decide +kernel)
end PS

namespace PS
open PySem PySem.Spec PyProof.Rows L2
variable {P : Program} {w : World} {K : PySem.W.Frag} {mg : Str → Option Value} {base : Heap}
theorem eqv_nil {ds : List PyData} : PyData.eqv (.list ds) (.list []) = ds.isEmpty := by
  cases ds <;> simp [PyData.eqv, PyData.eqvAll]
theorem two_of_len {ds : List PyData} (h : (ds.length : Int) = 2) : ∃ a b, ds = [a, b] := by
  match ds, h with
  | [a, b], _ => exact ⟨a, b, rfl⟩
  | [], h => simp at h
  | [_], h => simp at h
  | _ :: _ :: _ :: _, h => simp at h; omega
theorem three_of_len {ds : List PyData} (h : (ds.length : Int) = 3) : ∃ a b c, ds = [a, b, c] := by
  match ds, h with
  | [a, b, c], _ => exact ⟨a, b, c, rfl⟩
  | [], h => simp at h
  | [_], h => simp at h
  | [_, _], h => simp at h
  | _ :: _ :: _ :: _ :: _, h => simp at h; omega
theorem filter_empty (f : PyData → Bool) (ds : List PyData) : (ds.filter (fun x => !f x)).isEmpty = ds.all f := by
  induction ds with
  | nil => rfl
  | cons d ds ih =>
    cases e : f d <;> simp [List.filter_cons, e, ← ih]
/-! ### the law's own is-it-a-push -/
def isPushB (room : Int) (ls : List Int) (x : Str) (i j : Int) : Bool := if x = "right" then (if 0 ≤ i ∧ i < ls.length then decide (pre ls i.toNat ≤ j ∧ j ≤ pre ls i.toNat + (room - ls.sum)) else false) else if x = "left" then (if 1 ≤ i ∧ i < 1 + ls.length then decide (pre ls i.toNat ≤ j ∧ j ≤ pre ls i.toNat + (room - ls.sum)) else false) else false
theorem eqv_str (x y : Str) : PyData.eqv (.str x) (.str y) = decide (x = y) := by
  simp only [PyData.eqv]
  by_cases h : x = y
  · subst h; simp
  · simp [h]
theorem within_eq (j lo hi : Int) : within (.int j) lo hi = decide (lo ≤ j ∧ j ≤ hi) := by
  unfold within
  simp only
  by_cases h : lo ≤ j
  · rw [if_pos h]; simp [h]
  · rw [if_neg h]; simp [h]
theorem isPushB_eq (room : Int) (ls : List Int) (x : Str) (i j : Int) : isPush room ls (.tuple [.str x, .int i, .int j]) = isPushB room ls x i j := by
  unfold isPush isPushB isGap
  simp only [eqv_str, within_eq, intOf]
  by_cases h1 : x = "right"
  · simp only [h1, decide_true, if_true]
    by_cases h : 0 ≤ i ∧ i < ls.length
    · rw [if_pos h, decide_eq_true (show 0 ≤ i ∧ i ≤ (ls.length : Int) - 1 by omega)]; simp
    · rw [if_neg h, decide_eq_false (show ¬ (0 ≤ i ∧ i ≤ (ls.length : Int) - 1) by omega)]; simp
  · by_cases h2 : x = "left"
    · have h1' : ¬ ("left" : Str) = "right" := by decide +kernel
      rw [h2]
      simp only [decide_eq_false h1', decide_true, if_true]
      rw [if_neg h1']
      by_cases h : 1 ≤ i ∧ i < 1 + (ls.length : Int)
      · rw [if_pos h, decide_eq_true (show 1 ≤ i ∧ i ≤ (ls.length : Int) by omega)]; simp
      · rw [if_neg h, decide_eq_false (show ¬ (1 ≤ i ∧ i ≤ (ls.length : Int)) by omega)]; simp
    · simp only [h1, h2, decide_false, if_false]
      simp
theorem in_sides (x : Str) : inV (.str x) [.str "right", .str "left"] = (decide (x = "right") || decide (x = "left")) := by
  unfold inV
  simp only [List.any_cons, List.any_nil, eqV, Bool.or_false]
  congr 1
  · by_cases h : x = "right"
    · subst h; simp
    · rw [decide_eq_false h]; simp; exact fun z => h z.symm
  · by_cases h : x = "left"
    · subst h; simp
    · rw [decide_eq_false h]; simp; exact fun z => h z.symm
theorem no_push_side {room : Int} {ls : List Int} {s g p : PyData} (h : isS s = false) : isPush room ls (.tuple [s, g, p]) = false := by
  have e : ∀ x : Str, PyData.eqv s (.str x) = false := fun x => by cases s <;> simp [PyData.eqv, isS] at h ⊢
  unfold isPush isGap
  simp [e]
theorem no_push_int {room : Int} {ls : List Int} {s g p : PyData} (h : isW g = false ∨ isW p = false) : isPush room ls (.tuple [s, g, p]) = false := by
  have e : ∀ (d : PyData) (lo hi : Int), isW d = false → within d lo hi = false := fun d lo hi z => by cases d <;> simp [within, isW] at z ⊢
  unfold isPush isGap
  rcases h with h | h
  · simp [e _ _ _ h]
  · simp [e _ _ _ h]
def sp_law_is_push (K : PySem.W.Frag) : Sp := fun vs H Q _ => ∃ v u room ls d, vs = [v, u] ∧ Dp K H v (shD room ls) ∧ Dp K H u d ∧ RB H Q (isPush room ls d)
theorem ok_law_is_push (T : Tx K mg) : FnOk P w K mg base CX0 2 T.f_law_is_push T.fd_law_is_push ["shelf", "thing"] (sp_law_is_push K) := by
  have G_law_whole := ok_law_whole (P := P) (w := w) (base := base) T
  have G_law_play := ok_law_play (P := P) (w := w) (base := base) T
  refine T.F_law_is_push.ok sc_law_is_push (fun vs H Q E h => ?_) (fun cdv A outer s H vs Q E hr h => ?_)
  · obtain ⟨v, _, _, _, _, rfl, _⟩ := h
    rfl
  · obtain ⟨v, u, room, ls, d, rfl, hv, hu, q⟩ := h
    obtain ⟨a, b, rfl, sa, sb⟩ := dp_shelf hv
    refine ⟨_, (pss_cons (ps_if (PW.pt (pw_or (pt_not (pt_val (pe_callB call_isD (by rfl) T.n_isinstance (by decide +kernel) (pa_cons (pv 1) (pa_cons (pe_bltn (v := .ty "tuple") (by rfl) T.n_tuple (by decide +kernel) rfl) pa_nil))))) (pw_or (pt_cmpR op_ne (pe_callB call_len_seq (by rfl) T.n_len (by decide +kernel) (pa_cons (pv 1) pa_nil)) pe_int (nomark _)) (pw_or1 (pt_not (pt_val (pe_callB call_isD (by rfl) T.n_isinstance (by decide +kernel) (pa_cons (pe_ix ix_tup (pv 1) pe_int (fun _ _ => rfl)) (pa_cons (pe_bltn (v := .ty "str") (by rfl) T.n_str (by decide +kernel) rfl) pa_nil))))))))) (pss_one (ps_ret pe_bl)) pss_nil)
      (pss_cons (ps_if (PW.pt (pw_or (pt_cmpR op_notIn_seq (pe_ix ix_tup (pv 1) pe_int (fun _ _ => rfl)) (pe_tup (pa_cons pe_str (pa_cons pe_str pa_nil))) (by first | rfl | decide +kernel)) (pw_or (pt_not (pt_val (pe_call (G_law_whole.mono (by first | decide | omega)) hr (by rfl) T.g_law_whole T.F_law_whole.kp T.b_law_whole .nil pass0 (pa_cons (pe_ix ix_tup (pv 1) pe_int (fun _ _ => rfl)) pa_nil)))) (pw_or1 (pt_not (pt_val (pe_call (G_law_whole.mono (by first | decide | omega)) hr (by rfl) T.g_law_whole T.F_law_whole.kp T.b_law_whole .nil pass0 (pa_cons (pe_ix ix_tup (pv 1) pe_int (fun _ _ => rfl)) pa_nil)))))))) (pss_one (ps_ret pe_bl)) pss_nil)
      (pss_cons (ps_set (i := 2) sc_law_is_push.nd rfl (.inl rfl) (pe_callTy call_int1 (by rfl) T.n_int (by decide +kernel) (pa_cons (pe_cmpR op_eq (pe_ix ix_tup (pv 1) pe_int (fun _ _ => rfl)) pe_str (nomark _)) pa_nil)))
      (pss_cons (ps_if (pt_not (pt_chain op_le op_lt (pv 2) (pe_ix ix_tup (pv 1) pe_int (fun _ _ => rfl)) (pe_op op_add (pv 2) (pe_callB call_len_seq (by rfl) T.n_len (by decide +kernel) (pa_cons (pe_ix ix_tup (pv 0) pe_int (fun _ _ => rfl)) pa_nil))))) (pss_one (ps_ret pe_bl)) pss_nil)
      (pss_one (ps_ret (pe_chain op_le op_le pe_int (pe_op op_sub (pe_ix ix_tup (pv 1) pe_int (fun _ _ => rfl)) (pe_callB (cr_sumT rfl) (by rfl) T.n_sum (by decide +kernel) (pa_cons (pe_slice sl_tupA (pe_ix ix_tup (pv 0) pe_int (fun _ _ => rfl)) po_none (po_some (pe_ix ix_tup (pv 1) pe_int (fun _ _ => rfl)))) pa_nil))) (pe_call (G_law_play.mono (by first | decide | omega)) hr (by rfl) T.g_law_play T.F_law_play.kp T.b_law_play .nil pass0 (pa_cons (pv 0) pa_nil))))))))), ?_⟩
    refine ⟨u, rfl, u, _, d, rfl, hu, kTuple d, _, rfl, ?_⟩
    rw [isA_tuple]
    cases hu with
    | @tup t xs ds st al =>
      have hxl := dpAll_len al
      refine iteF ⟨_, rfl, t, xs, rfl, .inr st, rfl, _, rfl, ?_⟩
      rw [hxl]
      by_cases el : (ds.length : Int) = 3
      · rw [decide_eq_true (show V.int (ds.length : Int) = V.int 3 by rw [el])]
        refine iteF ?_
        obtain ⟨d1, d2, d3, rfl⟩ := three_of_len el
        cases al with
        | @cons x1 _ _ _ h1 al =>
        cases al with
        | @cons x2 _ _ _ h2 al =>
        cases al with
        | @cons x3 _ _ _ h3 al =>
        cases al
        refine ⟨.ref t, rfl, t, _, 0, _, rfl, rfl, st, atI_nat (j := 0) rfl, x1, _, d1, rfl, h1, kStr _, _, rfl, ?_⟩
        rw [isA_str]
        cases es : isS d1 with
        | false =>
          rw [no_push_side es] at q
          exact iteT (q H (Same.refl H))
        | true =>
          refine iteF ?_
          cases h1 with
          | str x =>
            refine ⟨.ref t, rfl, t, _, 0, _, rfl, rfl, st, atI_nat (j := 0) rfl, by show 2 ≤ sizeLine; decide, fun z nz => ?_⟩
            have s1 := same_new (o := .tup [.str "right", .str "left"]) nz
            refine ⟨z, _, rfl, .inr (.inl (.inl upd_same)), rfl, rfl, _, rfl, ?_⟩
            rw [in_sides]
            generalize upd H z (.tup [.str "right", .str "left"]) = H1 at *
            have st1 := seqT_mono s1 st
            have sa1 := seqT_mono s1 sa
            have sb1 := seqT_mono s1 sb
            by_cases hx : ¬ (x = "right" ∨ x = "left")
            · have hx1 : ¬ x = "right" := fun z => hx (.inl z)
              have hx2 : ¬ x = "left" := fun z => hx (.inr z)
              rw [decide_eq_false hx1, decide_eq_false hx2]
              have : isPush room ls (.tuple [.str x, d2, d3]) = false := by
                unfold isPush isGap
                simp [eqv_str, hx1, hx2]
              rw [this] at q
              exact iteT (q H1 s1)
            · have hx' : (decide (x = "right") || decide (x = "left")) = true := by
                simp only [Classical.not_not] at hx
                rcases hx with z | z <;> simp [z]
              rw [hx']
              refine iteF ⟨.ref t, rfl, t, _, 1, _, rfl, rfl, st1, atI_nat (j := 1) rfl, x2, d2, rfl, Dpm s1 h2, _, rfl, ?_⟩
              cases e2 : isW d2 with
              | false =>
                rw [no_push_int (.inl e2)] at q
                exact iteT (q H1 s1)
              | true =>
                refine iteF ⟨.ref t, rfl, t, _, 2, _, rfl, rfl, st1, atI_nat (j := 2) rfl, x3, d3, rfl, Dpm s1 h3, _, rfl, ?_⟩
                cases e3 : isW d3 with
                | false =>
                  rw [no_push_int (.inr e3)] at q
                  exact iteT (q H1 s1)
                | true =>
                  refine iteF ?_
                  cases h2 with
                  | int i =>
                    cases h3 with
                    | int j =>
                      rw [isPushB_eq] at q
                      refine ⟨.ref t, rfl, t, _, 0, _, rfl, rfl, st1, atI_nat (j := 0) rfl, rfl, .inr ⟨_, rfl, ?_⟩⟩
                      obtain ⟨low, elow, eb⟩ : ∃ low : Int, (if decide (V.str x = V.str "left") = true then (1 : Int) else 0) = low ∧ isPushB room ls x i j = (if low ≤ i ∧ i < low + ls.length then decide (pre ls i.toNat ≤ j ∧ j ≤ pre ls i.toNat + (room - ls.sum)) else false) ∧ 0 ≤ low := by
                        by_cases hr1 : x = "right"
                        · subst hr1
                          refine ⟨0, by rw [decide_eq_false (show ¬ V.str "right" = V.str "left" from by decide +kernel)]; rfl, ?_, Int.le_refl 0⟩
                          unfold isPushB
                          rw [if_pos rfl]
                          simp
                        · have hl1 : x = "left" := by
                            simp only [Classical.not_not] at hx
                            rcases hx with z | z
                            · exact absurd z hr1
                            · exact z
                          subst hl1
                          refine ⟨1, by rw [decide_eq_true (show V.str "left" = V.str "left" from rfl)]; rfl, ?_, by decide⟩
                          unfold isPushB
                          rw [if_neg hr1, if_pos rfl]
                      obtain ⟨eb, low0⟩ := eb
                      rw [eb] at q
                      dsimp only
                      rw [elow]
                      refine ⟨_, rfl, .ref t, rfl, t, _, 1, _, rfl, rfl, st1, atI_nat (j := 1) rfl, _, _, rfl, rfl, _, rfl, ?_⟩
                      by_cases c1 : low ≤ i
                      · rw [decide_eq_true c1]
                        refine iteT ⟨_, rfl, .ref a, rfl, a, _, 1, _, rfl, rfl, sa1, atI_nat (j := 1) rfl, b, _, rfl, .inr sb1, _, _, rfl, rfl, _, _, rfl, rfl, _, rfl, ?_⟩
                        rw [iV_len]
                        by_cases c2 : i < low + (ls.length : Nat)
                        · rw [decide_eq_true c2]
                          rw [if_pos ⟨c1, c2⟩] at q
                          refine iteF ?_
                          refine ⟨.ref t, rfl, t, _, 2, _, rfl, rfl, st1, atI_nat (j := 2) rfl, .ref a, rfl, a, _, 1, _, rfl, rfl, sa1, atI_nat (j := 1) rfl, .ref t, rfl, t, _, 1, _, rfl, rfl, st1, atI_nat (j := 1) rfl, _, rfl, ?_⟩
                          obtain ⟨g, rfl⟩ : ∃ g : Nat, i = (g : Int) := ⟨i.toNat, by omega⟩
                          refine slT_to (k := g) sb1 fun p H3 s3 sp => ?_
                          rw [← List.map_take] at sp
                          have ep : (ls.take g).sum = pre ls g := rfl
                          have et : ((g : Int)).toNat = g := by omega
                          rw [et] at q
                          refine ⟨p, ls.take g, rfl, sp, _, _, rfl, rfl, _, _, rfl, rfl, _, rfl, ?_⟩
                          rw [ep]
                          by_cases c3 : 0 ≤ j - pre ls g
                          · rw [decide_eq_true c3]
                            refine iteT ⟨.ref a, rfl, .ref a, room, ls, rfl, Dpm (s1.trans s3) hv, _, _, rfl, rfl, ?_⟩
                            dsimp only
                            have : decide (j - pre ls g ≤ room - ls.sum) = decide (pre ls g ≤ j ∧ j ≤ pre ls g + (room - ls.sum)) := by
                              by_cases c4 : j - pre ls g ≤ room - ls.sum
                              · rw [decide_eq_true c4, decide_eq_true (by omega)]
                              · rw [decide_eq_false c4, decide_eq_false (by omega)]
                            rw [this]
                            exact q _ (s1.trans s3)
                          · rw [decide_eq_false c3]
                            rw [decide_eq_false (show ¬ (pre ls g ≤ j ∧ j ≤ pre ls g + (room - ls.sum)) by omega)] at q
                            exact iteF (q _ (s1.trans s3))
                        · rw [decide_eq_false c2]
                          rw [if_neg (fun z => c2 z.2)] at q
                          exact iteT (q _ s1)
                      · rw [decide_eq_false c1]
                        rw [if_neg (fun z => c1 z.1)] at q
                        exact iteF ⟨_, rfl, iteT (q _ s1)⟩
                    | _ => simp [isW] at e3
                  | _ => simp [isW] at e2
          | _ => simp [isS] at es
      · rw [decide_eq_false (show ¬ V.int (ds.length : Int) = V.int 3 from fun z => el (V.int.inj z))]
        have : isPush room ls (.tuple ds) = false := by
          unfold isPush
          split
          · rename_i z
            cases z
            simp at el
          · rfl
        rw [this] at q
        exact iteT (q H (Same.refl H))
    | _ => exact iteT (q H (Same.refl H))
/-! ### the law's own is-it-a-row -/
def sp_law_is_row (K : PySem.W.Frag) : Sp := fun vs H Q _ => ∃ v u room ls d, vs = [v, u] ∧ Dp K H v (shD room ls) ∧ Dp K H u d ∧ d.depth ≤ 60 ∧ RB H Q (isRow room ls d)
end PS

namespace PS
open PySem PySem.Spec PyProof.Rows L2
variable {P : Program} {w : World} {K : PySem.W.Frag} {mg : Str → Option Value} {base : Heap}
/-! ### odd things -/
def sp_odd (K : PySem.W.Frag) : Sp := fun vs H Q _ => ∃ (k : Addr) (n : Nat), vs = [.ref k] ∧ Dk k H (n + 1) ∧ ∀ u H' d, d.depth ≤ 3 → Dk k H' n → Same (Off k H) (Off k H') → Dp K (Off k H') u d → Q u H'
theorem ok_law_odd (T : Tx K mg) : FnOk P w K mg base CX0 3 T.f_law_odd T.fd_law_odd ["deck"] (sp_odd K) := by
  have G_law_one := ok_law_one (P := P) (w := w) (base := base) T
  refine T.F_law_odd.ok sc_law_odd (fun vs H Q E h => ?_) (fun cdv A outer s H vs Q E hr h => ?_)
  · obtain ⟨_, _, rfl, _⟩ := h
    rfl
  · obtain ⟨k, n, rfl, dk, q⟩ := h
    refine ⟨_, (pss_cons (ps_set (i := 1) sc_law_odd.nd rfl (.inl rfl) (pe_lst (pa_cons pe_non (pa_cons pe_bl (pa_cons pe_str (pa_cons pe_str (pa_cons (pe_tup pa_nil) (pa_cons (pe_lst pa_nil) (pa_cons (pe_tup (pa_cons (pe_tup pa_nil) pa_nil)) (pa_cons pe_int (pa_cons (pe_un un_neg pe_int) (pa_cons (pe_op op_pow pe_int pe_int) (pa_cons (pe_tup (pa_cons pe_int (pa_cons pe_int pa_nil))) (pa_cons (pe_tup (pa_cons pe_int (pa_cons (pe_tup (pa_cons pe_int (pa_cons pe_int pa_nil))) pa_nil))) (pa_cons (pe_tup (pa_cons pe_str (pa_cons pe_int (pa_cons pe_int pa_nil)))) (pa_cons (pe_tup (pa_cons pe_int pa_nil)) pa_nil))))))))))))))))
      (pss_one (ps_ret (pe_call (G_law_one.mono (by first | decide | omega)) hr (by rfl) T.g_law_one T.F_law_one.kp T.b_law_one .nil pass0 (pa_cons (pv 0) (pa_cons (pv 1) pa_nil)))))), ?_⟩
    refine ⟨Nat.zero_le _, fun t1 n1 => ?_⟩
    have k1 := dk.ne n1
    have o1 := off_new (k := k) (o := .tup []) n1
    have dk1 := dk.same (same_new (o := .tup []) n1)
    have g1 : Dp K (Off k (upd H t1 (.tup []))) (.ref t1) (.tuple []) := .tup (.inl (.inl (off_up k1))) .nil
    generalize upd H t1 (.tup []) = H1 at *
    refine ⟨Nat.zero_le _, fun t2 n2 => ?_⟩
    have k2 := dk1.ne n2
    have o2 := off_new (k := k) (o := .lst []) n2
    have dk2 := dk1.same (same_new (o := .lst []) n2)
    have g2 : Dp K (Off k (upd H1 t2 (.lst []))) (.ref t2) (.list []) := .lst (.inl (.inl (off_up k2))) .nil
    generalize upd H1 t2 (.lst []) = H2 at *
    refine ⟨Nat.zero_le _, fun t3 n3 => ?_⟩
    have k3 := dk2.ne n3
    have o3 := off_new (k := k) (o := .tup []) n3
    have dk3 := dk2.same (same_new (o := .tup []) n3)
    have g3 : Dp K (Off k (upd H2 t3 (.tup []))) (.ref t3) (.tuple []) := .tup (.inl (.inl (off_up k3))) .nil
    generalize upd H2 t3 (.tup []) = H3 at *
    refine ⟨by show 1 ≤ sizeLine; decide, fun t4 n4 => ?_⟩
    have k4 := dk3.ne n4
    have o4 := off_new (k := k) (o := .tup [.ref t3]) n4
    have dk4 := dk3.same (same_new (o := .tup [.ref t3]) n4)
    have g4 : Dp K (Off k (upd H3 t4 (.tup [.ref t3]))) (.ref t4) (.tuple [.tuple []]) := .tup (.inl (.inl (off_up k4))) (.cons (Dpm o4 g3) .nil)
    generalize upd H3 t4 (.tup [.ref t3]) = H4 at *
    refine ⟨_, rfl, _, _, rfl, rfl, ⟨by decide, by decide, by decide⟩, ?_⟩
    refine ⟨by show 2 ≤ sizeLine; decide, fun t5 n5 => ?_⟩
    have k5 := dk4.ne n5
    have o5 := off_new (k := k) (o := .tup [.int 1, .int 2]) n5
    have dk5 := dk4.same (same_new (o := .tup [.int 1, .int 2]) n5)
    have g5 : Dp K (Off k (upd H4 t5 (.tup [.int 1, .int 2]))) (.ref t5) (.tuple [.int 1, .int 2]) := .tup (.inl (.inl (off_up k5))) (.cons (.int _) (.cons (.int _) .nil))
    generalize upd H4 t5 (.tup [.int 1, .int 2]) = H5 at *
    refine ⟨by show 2 ≤ sizeLine; decide, fun t6 n6 => ?_⟩
    have k6 := dk5.ne n6
    have o6 := off_new (k := k) (o := .tup [.int 1, .int 1]) n6
    have dk6 := dk5.same (same_new (o := .tup [.int 1, .int 1]) n6)
    have g6 : Dp K (Off k (upd H5 t6 (.tup [.int 1, .int 1]))) (.ref t6) (.tuple [.int 1, .int 1]) := .tup (.inl (.inl (off_up k6))) (.cons (.int _) (.cons (.int _) .nil))
    generalize upd H5 t6 (.tup [.int 1, .int 1]) = H6 at *
    refine ⟨by show 2 ≤ sizeLine; decide, fun t7 n7 => ?_⟩
    have k7 := dk6.ne n7
    have o7 := off_new (k := k) (o := .tup [.int 3, .ref t6]) n7
    have dk7 := dk6.same (same_new (o := .tup [.int 3, .ref t6]) n7)
    have g7 : Dp K (Off k (upd H6 t7 (.tup [.int 3, .ref t6]))) (.ref t7) (.tuple [.int 3, .tuple [.int 1, .int 1]]) := .tup (.inl (.inl (off_up k7))) (.cons (.int _) (.cons (Dpm o7 g6) .nil))
    generalize upd H6 t7 (.tup [.int 3, .ref t6]) = H7 at *
    refine ⟨by show 3 ≤ sizeLine; decide, fun t8 n8 => ?_⟩
    have k8 := dk7.ne n8
    have o8 := off_new (k := k) (o := .tup [.str "left", .int 1, .int 1]) n8
    have dk8 := dk7.same (same_new (o := .tup [.str "left", .int 1, .int 1]) n8)
    have g8 : Dp K (Off k (upd H7 t8 (.tup [.str "left", .int 1, .int 1]))) (.ref t8) (.tuple [.str "left", .int 1, .int 1]) := .tup (.inl (.inl (off_up k8))) (.cons (.str _) (.cons (.int _) (.cons (.int _) .nil)))
    generalize upd H7 t8 (.tup [.str "left", .int 1, .int 1]) = H8 at *
    refine ⟨by show 1 ≤ sizeLine; decide, fun t9 n9 => ?_⟩
    have k9 := dk8.ne n9
    have o9 := off_new (k := k) (o := .tup [.int 0]) n9
    have dk9 := dk8.same (same_new (o := .tup [.int 0]) n9)
    have g9 : Dp K (Off k (upd H8 t9 (.tup [.int 0]))) (.ref t9) (.tuple [.int 0]) := .tup (.inl (.inl (off_up k9))) (.cons (.int _) .nil)
    generalize upd H8 t9 (.tup [.int 0]) = H9 at *
    refine ⟨by show 14 ≤ sizeLine; decide, fun p np => ?_⟩
    have kp := dk9.ne np
    refine ⟨.ref k, rfl, .ref p, rfl, k, p, _, n, rfl, .inl (.inl (off_up kp)), by show 0 < 14; decide, by show 14 < 1000; decide, dk9.same (same_new np), fun x H' hx dk' o' => ?_⟩
    have oP := (off_new (k := k) (o := .lst [.non, .bl true, .str "", .str "a", .ref t1, .ref t2, .ref t4, .int 7, (fun i => V.int (-i)) 1, (fun (i j : Int) => V.int (i ^ j.toNat)) 10 30, .ref t5, .ref t7, .ref t8, .ref t9]) np).trans o'
    have e9 := o9.trans oP
    have e8 := o8.trans e9
    have e7 := o7.trans e8
    have e6 := o6.trans e7
    have e5 := o5.trans e6
    have e4 := o4.trans e5
    have e3 := o3.trans e4
    have e2 := o2.trans e3
    have e1 := o1.trans e2
    have fin : ∀ d : PyData, d.depth ≤ 3 → Dp K (Off k H') x d → Q x H' := fun d h1 h2 => q x H' d h1 dk' e1 h2
    rcases List.mem_cons.mp hx with rfl | hx
    · exact fin .none (by simp [PyData.depth]) .non
    rcases List.mem_cons.mp hx with rfl | hx
    · exact fin (.bool true) (by simp [PyData.depth]) (.bl _)
    rcases List.mem_cons.mp hx with rfl | hx
    · exact fin (.str "") (by simp [PyData.depth]) (.str _)
    rcases List.mem_cons.mp hx with rfl | hx
    · exact fin (.str "a") (by simp [PyData.depth]) (.str _)
    rcases List.mem_cons.mp hx with rfl | hx
    · exact fin _ (by simp [PyData.depth, PyData.depthAll]) (Dpm e2 g1)
    rcases List.mem_cons.mp hx with rfl | hx
    · exact fin _ (by simp [PyData.depth, PyData.depthAll]) (Dpm e3 g2)
    rcases List.mem_cons.mp hx with rfl | hx
    · exact fin _ (by simp [PyData.depth, PyData.depthAll]) (Dpm e5 g4)
    rcases List.mem_cons.mp hx with rfl | hx
    · exact fin (.int _) (by simp [PyData.depth]) (.int _)
    rcases List.mem_cons.mp hx with rfl | hx
    · exact fin (.int _) (by simp [PyData.depth]) (.int _)
    rcases List.mem_cons.mp hx with rfl | hx
    · exact fin (.int _) (by simp [PyData.depth]) (.int _)
    rcases List.mem_cons.mp hx with rfl | hx
    · exact fin _ (by simp [PyData.depth, PyData.depthAll]) (Dpm e6 g5)
    rcases List.mem_cons.mp hx with rfl | hx
    · exact fin _ (by simp [PyData.depth, PyData.depthAll]) (Dpm e8 g7)
    rcases List.mem_cons.mp hx with rfl | hx
    · exact fin _ (by simp [PyData.depth, PyData.depthAll]) (Dpm e9 g8)
    rcases List.mem_cons.mp hx with rfl | hx
    · exact fin _ (by simp [PyData.depth, PyData.depthAll]) (Dpm oP g9)
    · cases hx
end PS

namespace PS
open PySem PySem.Spec PyProof.Rows L2
variable {P : Program} {w : World} {K : PySem.W.Frag} {mg : Str → Option Value} {base : Heap}
/-! ### bands, by looking -/
abbrev flV (b : Fl) : List V := [.int (b.1.toNat : Nat), .int (b.2.toNat : Nat)]
inductive FlsAt (l : Addr) (H0 H : Hp) : List V → List Fl → Prop
  | nil : FlsAt l H0 H [] []
  | cons {a : Addr} {b : Fl} {vs : List V} {bs : List Fl} : a ≠ l ∧ H0 a = none → H a = some (.lst (flV b)) → FlsAt l H0 H vs bs → FlsAt l H0 H (.ref a :: vs) (b :: bs)
theorem FlsAt.len {l : Addr} {H0 H : Hp} : ∀ {vs : List V} {bs : List Fl}, FlsAt l H0 H vs bs → vs.length = bs.length
  | _, _, .nil => rfl
  | _, _, .cons _ _ h => by simp [h.len]
theorem FlsAt.keep {l : Addr} {H0 H H' : Hp} : ∀ {vs : List V} {bs : List Fl}, FlsAt l H0 H vs bs → (∀ a, .ref a ∈ vs → ∀ o, H a = some o → a ≠ l → H' a = some o) → FlsAt l H0 H' vs bs
  | _, _, .nil, _ => .nil
  | _, _, .cons n h hs, k => .cons n (k _ (by simp) _ h n.1) (hs.keep fun a ha => k a (by simp [ha]))
theorem FlsAt.app {l : Addr} {H0 H : Hp} : ∀ {vs us : List V} {bs cs : List Fl}, FlsAt l H0 H vs bs → FlsAt l H0 H us cs → FlsAt l H0 H (vs ++ us) (bs ++ cs)
  | _, _, _, _, .nil, h => h
  | _, _, _, _, .cons n h hs, k => .cons n h (hs.app k)
theorem FlsAt.split {l : Addr} {H0 H : Hp} : ∀ {vs : List V} {bs : List Fl}, FlsAt l H0 H vs bs → bs ≠ [] → ∃ vs0 a bs0 b, vs = vs0 ++ [.ref a] ∧ bs = bs0 ++ [b] ∧ FlsAt l H0 H vs0 bs0 ∧ (a ≠ l ∧ H0 a = none) ∧ H a = some (.lst (flV b))
  | _, _, .nil, h => absurd rfl h
  | _, _, .cons (a := a) (b := b) (vs := vs) (bs := bs) n h hs, _ => by
    by_cases e : bs = []
    · subst e
      cases hs
      exact ⟨[], a, [], b, rfl, rfl, .nil, n, h⟩
    · obtain ⟨vs0, a', bs0, b', rfl, rfl, h1, h2, h3⟩ := hs.split e
      exact ⟨.ref a :: vs0, a', b :: bs0, b', rfl, rfl, .cons n h h1, h2, h3⟩
abbrev bD (b : Fl) : PyData := .list [.int (b.1.toNat : Nat), .int (b.2.toNat : Nat)]
abbrev bsD (bs : List Fl) : PyData := .list (bs.map bD)
theorem FlsAt.dp {l : Addr} {H0 H : Hp} : ∀ {vs : List V} {bs : List Fl}, FlsAt l H0 H vs bs → DpAll K H vs (bs.map bD)
  | _, _, .nil => .nil
  | _, _, .cons _ h hs => .cons (.lst (.inl (.inl h)) (.cons (.int _) (.cons (.int _) .nil))) hs.dp
theorem max_bool (a b : Bool) : (if (if b = true then (1 : Int) else 0) > ((a.toNat : Nat) : Int) then (if b = true then (1 : Int) else 0) else ((a.toNat : Nat) : Int)) = (((a || b).toNat : Nat) : Int) := by
  cases a <;> cases b <;> decide
theorem eqv_int (a b : Int) : PyData.eqv (.int a) (.int b) = decide (a = b) := by
  simp only [PyData.eqv]
  rfl
theorem eqv_intN (a : Int) : PyData.eqv (.int a) .none = false := by simp [PyData.eqv]
def sp_law_bands (K : PySem.W.Frag) : Sp := fun vs H Q _ => ∃ v u t room ls y w, vs = [v, u, t] ∧ Dp K H v (shD room ls) ∧ ls.length ≤ 8 ∧ Dp K H u (tI (stL ls y)) ∧ Dp K H t (tI (stL ls w)) ∧ RD K H Q (bsD (lawB y w ls.length))
theorem ok_law_bands (T : Tx K mg) : FnOk P w K mg base CX0 1 T.f_law_bands T.fd_law_bands ["shelf", "stand", "wish"] (sp_law_bands K) := by
  refine T.F_law_bands.ok sc_law_bands (fun vs H Q E h => ?_) (fun cdv A outer s H vs Q E hr h => ?_)
  · obtain ⟨_, _, _, _, _, _, _, rfl, _⟩ := h
    rfl
  · obtain ⟨v, u, t, room, ls, y, w, rfl, hv, n8, hu, ht, q⟩ := h
    obtain ⟨a, b, rfl, sa, sb⟩ := dp_shelf hv
    obtain ⟨c, rfl, sc⟩ := dp_tI hu
    obtain ⟨d, rfl, sd⟩ := dp_tI ht
    refine ⟨_, (pss_cons (ps_par (i := 3) (j := 4) (by rfl) sc_law_bands.nd rfl rfl (by decide) rfl rfl (pa_cons (pe_lst pa_nil) (pa_cons pe_non pa_nil)) (by rfl))
      (pss_cons (ps_for PassesOwn.never rfl (pi_enum1 (by rfl) T.n_enumerate (pa_cons (pv 2) pa_nil)) (pg_tup rfl (pgs_cons (pg_name (i := 5) sc_law_bands.nd rfl (.inl rfl)) (pgs_cons (pg_name (i := 6) sc_law_bands.nd rfl (.inl rfl)) pgs_nil)))
      (pss_cons (ps_set (i := 7) sc_law_bands.nd rfl (.inl rfl) (pe_op op_sub (pv 6) (pe_callB (cr_sumT rfl) (by rfl) T.n_sum (by decide +kernel) (pa_cons (pe_slice sl_tupA (pe_ix ix_tup (pv 0) pe_int (fun _ _ => rfl)) po_none (po_some (pv 5))) pa_nil))))
      (C8.pss_cut (ps_if (pt_cmpR (op_neP hr.units) (pv 7) (pv 4) (nomark _)) (pss_one (ps_expr (pe_bm PySem.F.plainAttrs_list PySem.F.slot_list_append PySem.F.type_list_append mt_append (pv 3) (pa_cons (pe_lst (pa_cons pe_int (pa_cons pe_int pa_nil))) pa_nil)))) pss_nil)
      (pss_cons (ps_set (i := 4) sc_law_bands.nd rfl (.inl rfl) (pv 7))
      (pss_cons (ps_asg (pe_callB (call_max2 rfl) (by rfl) T.n_max (by decide +kernel) (pa_cons (pe_ix ix_list (pe_ix ix_list (pv 3) (pe_un un_neg pe_int) (fun _ _ => rfl)) pe_int (fun _ _ => rfl)) (pa_cons (pe_callTy call_int1 (by rfl) T.n_int (by decide +kernel) (pa_cons (pe_cmpR op_lt (pe_ix ix_tup (pv 1) (pv 5) (fun _ _ => rfl)) (pv 6) (nomark _)) pa_nil)) pa_nil))) (pg_sub (pe_ix ix_list (pv 3) (pe_un un_neg pe_int) (fun _ _ => rfl)) pe_int set_list))
      (pss_one (ps_asg (pe_callB (call_max2 rfl) (by rfl) T.n_max (by decide +kernel) (pa_cons (pe_ix ix_list (pe_ix ix_list (pv 3) (pe_un un_neg pe_int) (fun _ _ => rfl)) pe_int (fun _ _ => rfl)) (pa_cons (pe_callTy call_int1 (by rfl) T.n_int (by decide +kernel) (pa_cons (pe_cmpR op_gt (pe_ix ix_tup (pv 1) (pv 5) (fun _ _ => rfl)) (pv 6) (nomark _)) pa_nil)) pa_nil))) (pg_sub (pe_ix ix_list (pv 3) (pe_un un_neg pe_int) (fun _ _ => rfl)) pe_int set_list))))))))
      (pss_one (ps_ret (pv 3))))), ?_⟩
    refine ⟨Nat.zero_le _, fun l nl => ⟨_, _, rfl, ?_⟩⟩
    have s1 := same_new (o := .lst []) nl
    refine ⟨.ref d, rfl, false, d, _, rfl, seqT_mono s1 sd, ?_⟩
    refine for_it (walk_1 (n := ls.length) (xs := iV (stL ls w)) (by rw [iV_len, stL_len])) (fun k σ H' => Same H H' ∧ ∃ us y5 y6 y7, σ = [some (.ref a), some (.ref c), some (.ref d), some (.ref l), some (if k = 0 then .non else .int (w (k - 1))), y5, y6, y7] ∧ H' l = some (.lst us) ∧ FlsAt l H H' us (lawB y w k) ∧ us.Nodup)
      ⟨s1, [], _, _, _, rfl, upd_same, .nil, by simp⟩ (fun k σ H' _ p => seqT_mono p.1 sd) (fun k x σ H2 H2' hk p yy => ?_) (fun σ H2 p => ?_)
    · obtain ⟨s2, us, y5, y6, y7, rfl, hl, fa, nd⟩ := p
      obtain ⟨Tt, x, rfl, nT, rfl, hx⟩ := yy
      rw [iV_get (stL_get hk)] at hx
      cases Option.some.inj hx
      have t3 := same_new (o := .tup [.int (k : Nat), .int (w k + pre ls k)]) nT
      have hT : SqT K (upd H2 Tt (.tup [.int (k : Nat), .int (w k + pre ls k)])) Tt [.int (k : Nat), .int (w k + pre ls k)] := .inl (.inl upd_same)
      have s3 := s2.trans t3
      have hl3 := t3 _ _ hl
      have fa3 : FlsAt l H (upd H2 Tt (.tup [.int (k : Nat), .int (w k + pre ls k)])) us (lawB y w k) := fa.keep fun a _ o e _ => t3 _ _ e
      generalize upd H2 Tt (.tup [.int (k : Nat), .int (w k + pre ls k)]) = H3 at *
      refine ⟨Tt, _, rfl, hT, rfl, _, _, rfl, _, [], rfl, rfl, ?_⟩
      refine ⟨_, rfl, .ref a, rfl, a, _, 1, _, rfl, rfl, seqT_mono s3 sa, atI_nat (j := 1) rfl, _, rfl, _, rfl, ?_⟩
      refine slT_to (k := k) (seqT_mono s3 sb) fun p4 H4 s4 sp4 => ?_
      rw [← List.map_take] at sp4
      have g4 := s3.trans s4
      have hl4 := s4 _ _ hl3
      have fa4 : FlsAt l H H4 us (lawB y w k) := fa3.keep fun a _ o e _ => s4 _ _ e
      refine ⟨p4, ls.take k, rfl, sp4, _, _, rfl, rfl, ?_⟩
      dsimp only
      rw [show w k + pre ls k - (ls.take k).sum = w k from by show w k + pre ls k - pre ls k = w k; omega]
      have hlen := lawB_len (y := y) (w := w) k
      have hul := fa4.len
      -- if place != last
      refine ⟨fun σ' H5 => Same H H5 ∧ σ' = [some (.ref a), some (.ref c), some (.ref d), some (.ref l), some (if k = 0 then .non else .int (w (k - 1))), some (.int (k : Nat)), some (.int (w k + pre ls k)), some (.int (w k))] ∧ ∃ us, H5 l = some (.lst us) ∧ us.Nodup ∧ FlsAt l H H5 us (if k = 0 ∨ w k ≠ w (k - 1) then lawB y w k ++ [(false, false)] else lawB y w k), ?_, ?_⟩
      · have add : (k = 0 ∨ w k ≠ w (k - 1)) → tDrop (tBM K "list" rAppend (tVar 3) (tCons (tLst (tCons (tC (.int 0)) (tCons (tC (.int 0)) tNil))) tNil)) { nx := fun σ' H5 => Same H H5 ∧ σ' = [some (.ref a), some (.ref c), some (.ref d), some (.ref l), some (if k = 0 then .non else .int (w (k - 1))), some (.int (k : Nat)), some (.int (w k + pre ls k)), some (.int (w k))] ∧ ∃ us, H5 l = some (.lst us) ∧ us.Nodup ∧ FlsAt l H H5 us (if k = 0 ∨ w k ≠ w (k - 1) then lawB y w k ++ [(false, false)] else lawB y w k), rt := Q } [some (.ref a), some (.ref c), some (.ref d), some (.ref l), some (if k = 0 then .non else .int (w (k - 1))), some (.int (k : Nat)), some (.int (w k + pre ls k)), some (.int (w k))] H4 := by
          intro hc
          refine ⟨.ref l, rfl, .inl ⟨rfl, _, .inl (.inl hl4)⟩, by show 2 ≤ sizeLine; decide, fun z nz => ?_⟩
          have t5 := same_new (o := .lst [.int 0, .int 0]) nz
          have nzl : z ≠ l := (ne_of_none hl4 nz).symm
          refine ⟨l, us, _, rfl, rfl, t5 _ _ hl4, small1000 (by omega), keep_row nl (g4.trans t5), rfl, us ++ [.ref z], upd_same, ?_, ?_⟩
          · rw [List.nodup_append]
            refine ⟨nd, by simp, fun x hx y' hy => ?_⟩
            have : y' = .ref z := by simpa using hy
            rw [this]
            intro e
            rw [e] at hx
            have : ∀ {vs : List V} {bs : List Fl}, FlsAt l H H4 vs bs → .ref z ∈ vs → False := by
              intro vs bs hf
              induction hf with
              | nil => intro h; simp at h
              | cons n h _ ih =>
                intro hm
                rcases List.mem_cons.mp hm with q | q
                · cases q
                  rw [nz] at h
                  cases h
                · exact ih q
            exact this fa4 hx
          · rw [if_pos hc]
            refine FlsAt.app (fa4.keep fun a' ha' o e n => ?_) (.cons ⟨nzl, g4.free nz⟩ (by rw [upd_ne nzl, upd_same]; rfl) .nil)
            rw [upd_ne n]
            exact t5 _ _ e
        refine ⟨_, rfl, _, rfl, ?_⟩
        by_cases c0 : k = 0
        · refine ⟨.int (w k), .none, .int _, by rw [if_pos c0]; exact .non, by simp [PyData.depth], _, rfl, ?_⟩
          rw [eqv_intN]
          exact iteT (add (.inl c0))
        · refine ⟨.int (w k), .int (w (k - 1)), .int _, by rw [if_neg c0]; exact .int _, by simp [PyData.depth], _, rfl, ?_⟩
          rw [eqv_int]
          by_cases c1 : w k = w (k - 1)
          · rw [decide_eq_true c1]
            refine iteF ⟨g4, rfl, us, hl4, nd, ?_⟩
            rw [if_neg (by rintro (z | z); exact c0 z; exact z c1)]
            exact fa4
          · rw [decide_eq_false c1]
            exact iteT (add (.inr c1))
      · rintro σ' H5 ⟨g5, rfl, us5, hl5, nd5, fa5⟩
        have hne : (if k = 0 ∨ w k ≠ w (k - 1) then lawB y w k ++ [(false, false)] else lawB y w k) ≠ [] := by
          split
          · simp
          · rename_i c0
            intro z
            have h1 : 0 < k := by
              by_cases e : k = 0
              · exact absurd (.inl e) c0
              · omega
            have := hlen.2 h1
            rw [z] at this
            simp at this
        have hB : lawB y w (k + 1) = (if k = 0 ∨ w k ≠ w (k - 1) then lawB y w k ++ [(false, false)] else lawB y w k).dropLast ++ [(((if k = 0 ∨ w k ≠ w (k - 1) then lawB y w k ++ [(false, false)] else lawB y w k).getLastD (false, false)).1 || decide (y k < w k), ((if k = 0 ∨ w k ≠ w (k - 1) then lawB y w k ++ [(false, false)] else lawB y w k).getLastD (false, false)).2 || decide (w k < y k))] := rfl
        generalize (if k = 0 ∨ w k ≠ w (k - 1) then lawB y w k ++ [(false, false)] else lawB y w k) = L at *
        obtain ⟨us0, z, L0, ⟨b1, b2⟩, rfl, rfl, fa0, ⟨nzl, nzH⟩, hz⟩ := fa5.split hne
        rw [List.dropLast_concat, lastD_sn] at hB
        simp only at hB
        have hyk : (iV (stL ls y))[k]? = some (.int (y k + pre ls k)) := iV_get (stL_get hk)
        have e1 : decide (y k + pre ls k < w k + pre ls k) = decide (y k < w k) := decide_eq_decide.mpr (by omega)
        have e2 : decide (y k + pre ls k > w k + pre ls k) = decide (w k < y k) := decide_eq_decide.mpr (by omega)
        have nin : ∀ a', .ref a' ∈ us0 → a' ≠ z := fun a' ha' q => by
          rw [List.nodup_append] at nd5
          exact nd5.2.2 _ ha' (.ref z) (by simp) (by rw [q])
        refine ⟨_, rfl, ?_⟩
        -- found[-1][0]
        refine ⟨.ref l, rfl, 1, rfl, l, _, -1, _, rfl, rfl, .inl (.inl hl5), atI_last _ _, z, _, 0, _, rfl, rfl, .inl (.inl hz), atI_nat (j := 0) rfl, .ref c, rfl, _, rfl, c, _, _, _, rfl, rfl, seqT_mono g5 sc, at_of (j := k) rfl hyk, _, rfl, _, _, rfl, rfl, .inr ⟨_, rfl, _, _, rfl, ?_⟩⟩
        dsimp only
        rw [e1, max_bool]
        refine ⟨.ref l, rfl, 1, rfl, l, _, -1, _, rfl, rfl, .inl (.inl hl5), atI_last _ _, z, _, 0, 0, rfl, rfl, hz, rfl, ?_⟩
        have hz6 : upd H5 z (.lst ((flV (b1, b2)).set 0 (.int (((b1 || decide (y k < w k)).toNat : Nat) : Int)))) z = some (.lst [.int (((b1 || decide (y k < w k)).toNat : Nat) : Int), .int ((b2.toNat : Nat) : Int)]) := upd_same
        have hl6 : upd H5 z (.lst ((flV (b1, b2)).set 0 (.int (((b1 || decide (y k < w k)).toNat : Nat) : Int)))) l = some (.lst (us0 ++ [.ref z])) := by rw [upd_ne nzl.symm]; exact hl5
        have g6 : Same H (upd H5 z (.lst ((flV (b1, b2)).set 0 (.int (((b1 || decide (y k < w k)).toNat : Nat) : Int))))) := keep_row nzH g5
        have fa6 : FlsAt l H (upd H5 z (.lst ((flV (b1, b2)).set 0 (.int (((b1 || decide (y k < w k)).toNat : Nat) : Int))))) us0 L0 := fa0.keep fun a' ha' o e _ => by
          rw [upd_ne (nin a' ha')]
          exact e
        generalize upd H5 z (.lst ((flV (b1, b2)).set 0 (.int (((b1 || decide (y k < w k)).toNat : Nat) : Int)))) = H6 at *
        -- found[-1][1]
        refine ⟨.ref l, rfl, 1, rfl, l, _, -1, _, rfl, rfl, .inl (.inl hl6), atI_last _ _, z, _, 1, _, rfl, rfl, .inl (.inl hz6), atI_nat (j := 1) rfl, .ref c, rfl, _, rfl, c, _, _, _, rfl, rfl, seqT_mono g6 sc, at_of (j := k) rfl hyk, _, rfl, _, _, rfl, rfl, .inr ⟨_, rfl, _, _, rfl, ?_⟩⟩
        dsimp only
        rw [e2, max_bool]
        refine ⟨.ref l, rfl, 1, rfl, l, _, -1, _, rfl, rfl, .inl (.inl hl6), atI_last _ _, z, _, 1, 1, rfl, rfl, hz6, rfl, ?_⟩
        refine ⟨keep_row nzH g6, us0 ++ [.ref z], some (.int (k : Nat)), some (.int (w k + pre ls k)), some (.int (w k)), ?_, by rw [upd_ne nzl.symm]; exact hl6, ?_, nd5⟩
        · rw [if_neg (show ¬ k + 1 = 0 by omega), Nat.add_sub_cancel]
          rfl
        · rw [hB]
          refine FlsAt.app (fa6.keep fun a' ha' o e _ => ?_) (.cons ⟨nzl, nzH⟩ ?_ .nil)
          · rw [upd_ne (nin a' ha')]
            exact e
          · rw [upd_same]
            rfl
    · obtain ⟨s2, us, y5, y6, y7, rfl, hl, fa, nd⟩ := p
      exact ⟨.ref l, rfl, q _ H2 s2 (.lst (.inl (.inl hl)) fa.dp)⟩
/-! ### the least, by all partings -/
theorem eqv_nilB {ds : List PyData} : PyData.eqv (.list ds) (.list []) = ds.isEmpty := by
  cases ds <;> simp [PyData.eqv, PyData.eqvAll]
theorem bsD_depth (bs : List Fl) : (bsD bs).depth ≤ 2 := by
  rw [PyData.depth]
  have : PyData.depthAll (bs.map bD) ≤ 1 := depthAll_le _ fun d hd => by
    obtain ⟨b, _, rfl⟩ := List.mem_map.mp hd
    simp [PyData.depth, PyData.depthAll]
  omega
theorem dp_bD {H : Hp} {v : V} {b : Fl} (h : Dp K H v (bD b)) : ∃ a, v = .ref a ∧ SqL K H a (flV b) := by
  obtain ⟨a, xs, rfl, s, al⟩ := dp_lst h
  cases al with
  | cons h1 al =>
    cases al with
    | cons h2 al =>
      cases al
      cases dp_int h1
      cases dp_int h2
      exact ⟨a, rfl, s⟩
def sp_law_fewest (K : PySem.W.Frag) (n : Nat) : Sp := fun vs H Q _ => ∃ v bs, vs = [v] ∧ Dp K H v (bsD bs) ∧ bs.length < n ∧ bs.length ≤ 8 ∧ ∀ H' c, Same H H' → Least bs c → Q (.int (c : Nat)) H'
theorem fewest_step (T : Tx K mg) {n k : Nat} (hk : 1 ≤ k) (G_law_fewest : FnOk P w K mg base CX0 k T.f_law_fewest T.fd_law_fewest ["bands"] (sp_law_fewest K n)) : FnOk P w K mg base CX0 (k + 1) T.f_law_fewest T.fd_law_fewest ["bands"] (sp_law_fewest K (n + 1)) := by
  refine T.F_law_fewest.ok sc_law_fewest (fun vs H Q E h => ?_) (fun cdv A outer s H vs Q E hr h => ?_)
  · obtain ⟨_, _, rfl, _⟩ := h
    rfl
  · obtain ⟨v, bs, rfl, hv, hn, b8, q⟩ := h
    refine ⟨_, (pss_cons (ps_if (pt_cmpR (op_eqP hr.units) (pv 0) (pe_lst pa_nil) (nomark _)) (pss_one (ps_ret pe_int)) pss_nil)
      (pss_cons (ps_set (i := 1) sc_law_fewest.nd rfl (.inl rfl) (pe_op op_add (pe_callB (cr_sum rfl) (by rfl) T.n_sum (by decide +kernel) (pa_cons (pe_ix ix_list (pv 0) pe_int (fun _ _ => rfl)) pa_nil)) (pe_call (G_law_fewest.mono (by first | decide | omega)) hr (by rfl) T.g_law_fewest T.F_law_fewest.kp T.b_law_fewest .nil pass0 (pa_cons (pe_slice sl_list (pv 0) (po_some pe_int) po_none) pa_nil))))
      (pss_cons (ps_for PassesOwn.never rfl (pi_range2 (by rfl) T.n_range (pa_cons pe_int (pa_cons (pe_op op_add (pe_callB call_len_seq (by rfl) T.n_len (by decide +kernel) (pa_cons (pv 0) pa_nil)) pe_int) pa_nil))) (pg_name (i := 2) sc_law_fewest.nd rfl (.inl rfl))
      (pss_one (ps_for PassesOwn.never rfl (pi_range1 (by rfl) T.n_range (pa_cons (pv 2) pa_nil)) (pg_name (i := 3) sc_law_fewest.nd rfl (.inl rfl))
      (pss_cons (ps_set (i := 4) sc_law_fewest.nd rfl (.inl rfl) pe_int)
      (C8.pss_cut (ps_if (PW.pt (pw_or (PW.pt (pw_and (pt_cmpR op_eq (pv 3) (pe_op op_sub (pv 2) pe_int) (nomark _)) (pw_and1 (pt_cmpR op_eq (pe_ix ix_list (pe_ix ix_list (pv 0) (pv 3) (fun _ _ => rfl)) pe_int (fun _ _ => rfl)) pe_int (nomark _))))) (pw_or1 (PW.pt (pw_and (pt_cmpR op_eq (pv 3) pe_int (nomark _)) (pw_and1 (pt_cmpR op_eq (pe_ix ix_list (pe_ix ix_list (pv 0) (pv 3) (fun _ _ => rfl)) pe_int (fun _ _ => rfl)) pe_int (nomark _)))))))) (pss_one (ps_set (i := 4) sc_law_fewest.nd rfl (.inl rfl) pe_int)) pss_nil)
      (pss_one (ps_set (i := 1) sc_law_fewest.nd rfl (.inl rfl) (pe_callB (call_min2 rfl) (by rfl) T.n_min (by decide +kernel) (pa_cons (pv 1) (pa_cons (pe_op op_add (pe_op op_add (pe_op op_sub (pv 2) pe_int) (pv 4)) (pe_call (G_law_fewest.mono (by first | decide | omega)) hr (by rfl) T.g_law_fewest T.F_law_fewest.kp T.b_law_fewest .nil pass0 (pa_cons (pe_slice sl_list (pv 0) (po_some (pv 2)) po_none) pa_nil))) pa_nil))))))))))
      (pss_one (ps_ret (pv 1)))))), ?_⟩
    refine ⟨v, rfl, Nat.zero_le _, fun z nz => ?_⟩
    have s1 := same_new (o := .lst []) nz
    refine ⟨bsD bs, .list [], Dpm s1 hv, .lst (.inl (.inl upd_same)) .nil, Nat.le_trans (bsD_depth bs) (by decide), _, rfl, ?_⟩
    rw [eqv_nilB]
    generalize upd H z (.lst []) = H1 at *
    cases bs with
    | nil => exact iteT (q H1 0 s1 ⟨.nil, fun _ _ => Nat.zero_le _⟩)
    | cons b0 bs0 =>
      refine iteF ?_
      have hne : b0 :: bs0 ≠ [] := by simp
      generalize hbs : b0 :: bs0 = bs at *
      have hlen1 : 1 ≤ bs.length := by rw [← hbs]; simp
      have hget : ∀ j, j < bs.length → bs[j]? = some (bs.getD j (false, false)) := fun j hj => by
        rw [List.getElem?_eq_getElem hj]
        simp [hj]
      obtain ⟨c, xs, rfl, sc, al⟩ := dp_lst (Dpm s1 hv)
      have hxl := dpAll_len al
      rw [List.length_map] at hxl
      -- each band where it lies
      have bat : ∀ {H2 : Hp}, Same H1 H2 → ∀ j, j < bs.length → ∃ a, xs[j]? = some (.ref a) ∧ SqL K H2 a (flV (bs.getD j (false, false))) := fun {H2} s2 j hj => by
        obtain ⟨x, hx, hd⟩ := dpAll_at (d := bD (bs.getD j (false, false))) al (by rw [List.getElem?_map, hget j hj]; rfl)
        obtain ⟨a, rfl, sa⟩ := dp_bD hd
        exact ⟨a, hx, s2.seq sa⟩
      obtain ⟨a0, hx0, sa0⟩ := bat (Same.refl H1) 0 (by omega)
      refine ⟨.ref c, rfl, c, _, 0, _, rfl, rfl, sc, atI_nat (j := 0) hx0, a0, [((bs.getD 0 (false, false)).1.toNat : Int), ((bs.getD 0 (false, false)).2.toNat : Int)], rfl, sa0, .ref c, rfl, ?_⟩
      refine ⟨_, rfl, ?_⟩
      unfold tNoPart
      refine ⟨c, xs, rfl, sc, fun p2 np2 => ?_⟩
      rw [show (some (1 : Int)) = some ((1 : Nat) : Int) from rfl, cut_from]
      have t2 := same_new (o := .lst (xs.drop 1)) np2
      have hp2 : Dp K (upd H1 p2 (.lst (xs.drop 1))) (.ref p2) (bsD (bs.drop 1)) := by
        refine .lst (.inl (.inl upd_same)) ?_
        rw [List.map_drop]
        exact dpAll_drop 1 (dpAll_mono t2 _ _ al)
      refine ⟨.ref p2, bs.drop 1, rfl, hp2, by rw [List.length_drop]; omega, by rw [List.length_drop]; omega, fun H3 c3 s3 l3 => ?_⟩
      have g3 := t2.trans s3
      refine ⟨_, _, rfl, rfl, ?_⟩
      have e1 : (([((bs.getD 0 (false, false)).1.toNat : Int), ((bs.getD 0 (false, false)).2.toNat : Int)] : List Int).sum) + (c3 : Int) = ((gc (bs.take 1) + c3 : Nat) : Int) := by
        have : bs.take 1 = [bs.getD 0 (false, false)] := by rw [← hbs]; rfl
        rw [this, gc_one]
        simp
      dsimp only
      rw [e1]
      have hb2 := BestTo.first l3
      -- the groups
      refine ⟨.ref c, rfl, c, _, rfl, .inl (g3.seq sc), _, _, rfl, rfl, _, _, rfl, ⟨by omega, by omega, by omega, by rw [hxl]; omega⟩, ?_⟩
      rw [hxl]
      refine for_range (lo := 2) (n := ((bs.length : Int) + 1 - 2).toNat) (fun i σ H' => Same H1 H' ∧ ∃ b y2 y3 y4, σ = [some (.ref c), some (.int (b : Nat)), y2, y3, y4] ∧ BestTo bs (i + 2) b) ⟨g3, _, _, _, _, rfl, hb2⟩ (fun i σ H4 hi p => ?_) (fun σ H4 p => ?_)
      · obtain ⟨s4, b, y2, y3, y4, rfl, hb⟩ := p
        have hm : i + 2 ≤ bs.length := by omega
        obtain ⟨cm, lm⟩ := least_ex (bs.drop (i + 2))
        refine ⟨_, rfl, _, rfl, by omega, by omega, ?_⟩
        refine for_range (lo := 0) (n := ((2 : Int) + (i : Int)).toNat) (fun t σ H' => Same H1 H' ∧ ∃ b' y3 y4, σ = [some (.ref c), some (.int (b' : Nat)), some (.int (2 + (i : Int))), y3, y4] ∧ b' ≤ b ∧ (∀ s, s < t → b' ≤ i + 2 - 1 + ownS bs (i + 2) s + cm) ∧ (b' = b ∨ ∃ s, s < t ∧ b' = i + 2 - 1 + ownS bs (i + 2) s + cm)) ⟨s4, b, _, _, rfl, Nat.le_refl _, by omega, .inl rfl⟩ (fun t σ H5 ht p => ?_) (fun σ H5 p => ?_)
        · obtain ⟨s5, b', y3, y4, rfl, k1, k2, k3⟩ := p
          have ht' : t < i + 2 := by omega
          obtain ⟨at_, hxt, sat⟩ := bat s5 t (by omega)
          have eat : (0 : Int) + (t : Int) = (t : Nat) := by omega
          -- own
          refine ⟨fun σ' H6 => H6 = H5 ∧ σ' = [some (.ref c), some (.int (b' : Nat)), some (.int (2 + (i : Int))), some (.int (0 + (t : Int))), some (.int (ownS bs (i + 2) t : Nat))], ?_, ?_⟩
          · have d1 : decide (V.int (0 + (t : Int)) = V.int (2 + (i : Int) - 1)) = decide (t = i + 2 - 1) := by
              by_cases e : t = i + 2 - 1
              · rw [decide_eq_true e, decide_eq_true (by congr 1; omega)]
              · rw [decide_eq_false e, decide_eq_false (fun z => e (by have := V.int.inj z; omega))]
            have d2 : decide (V.int (0 + (t : Int)) = V.int 0) = decide (t = 0) := by
              by_cases e : t = 0
              · rw [decide_eq_true e, decide_eq_true (by congr 1; omega)]
              · rw [decide_eq_false e, decide_eq_false (fun z => e (by have := V.int.inj z; omega))]
            have fb : ∀ x : Bool, decide (V.int ((x.toNat : Nat) : Int) = V.int 0) = !x := fun x => by cases x <;> decide
            have yes : ownS bs (i + 2) t = 1 → tAsg (tC (.int 1)) (gName 4) { nx := fun σ' H6 => H6 = H5 ∧ σ' = [some (.ref c), some (.int (b' : Nat)), some (.int (2 + (i : Int))), some (.int (0 + (t : Int))), some (.int (ownS bs (i + 2) t : Nat))], rt := Q } [some (.ref c), some (.int (b' : Nat)), some (.int (2 + (i : Int))), some (.int (0 + (t : Int))), some (.int 2)] H5 := fun e => ⟨rfl, by rw [e]; rfl⟩
            have no : ownS bs (i + 2) t = 2 → H5 = H5 ∧ [some (V.ref c), some (.int (b' : Nat)), some (.int (2 + (i : Int))), some (.int (0 + (t : Int))), some (.int 2)] = [some (.ref c), some (.int (b' : Nat)), some (.int (2 + (i : Int))), some (.int (0 + (t : Int))), some (.int (ownS bs (i + 2) t : Nat))] := fun e => ⟨rfl, by rw [e]; rfl⟩
            have own1 : (t = i + 2 - 1 ∧ (bs.getD t (false, false)).2 = false) ∨ (t = 0 ∧ (bs.getD t (false, false)).1 = false) → ownS bs (i + 2) t = 1 := fun h => by unfold ownS; rw [if_pos h]
            have own2 : ¬ ((t = i + 2 - 1 ∧ (bs.getD t (false, false)).2 = false) ∨ (t = 0 ∧ (bs.getD t (false, false)).1 = false)) → ownS bs (i + 2) t = 2 := fun h => by unfold ownS; rw [if_neg h]
            refine ⟨_, rfl, _, rfl, _, _, rfl, rfl, rfl, _, rfl, ?_⟩
            dsimp only
            rw [d1]
            by_cases e1 : t = i + 2 - 1
            · rw [decide_eq_true e1]
              refine iteT ⟨.ref c, rfl, _, rfl, c, _, _, _, rfl, rfl, s5.seq sc, at_of (j := t) eat hxt, at_, _, 1, _, rfl, rfl, sat, atI_nat (j := 1) rfl, rfl, _, rfl, ?_⟩
              rw [fb]
              cases e2 : (bs.getD t (false, false)).2 with
              | false => exact iteT (yes (own1 (.inl ⟨e1, e2⟩)))
              | true =>
                refine iteF ⟨_, rfl, rfl, _, rfl, ?_⟩
                rw [d2, decide_eq_false (by omega)]
                refine iteF (no (own2 ?_))
                rintro (⟨_, z⟩ | ⟨z, _⟩)
                · rw [e2] at z; cases z
                · omega
            · rw [decide_eq_false e1]
              refine iteF ⟨_, rfl, rfl, _, rfl, ?_⟩
              rw [d2]
              by_cases e3 : t = 0
              · rw [decide_eq_true e3]
                refine iteT ⟨.ref c, rfl, _, rfl, c, _, _, _, rfl, rfl, s5.seq sc, at_of (j := t) eat hxt, at_, _, 0, _, rfl, rfl, sat, atI_nat (j := 0) rfl, rfl, _, rfl, ?_⟩
                rw [fb]
                cases e4 : (bs.getD t (false, false)).1 with
                | false => exact iteT (yes (own1 (.inr ⟨e3, e4⟩)))
                | true =>
                  refine iteF (no (own2 ?_))
                  rintro (⟨z, _⟩ | ⟨_, z⟩)
                  · exact e1 z
                  · rw [e4] at z; cases z
              · rw [decide_eq_false e3]
                refine iteF (no (own2 ?_))
                rintro (⟨z, _⟩ | ⟨z, _⟩)
                · exact e1 z
                · exact e3 z
          · rintro σ' H6 ⟨rfl, rfl⟩
            refine ⟨_, rfl, _, rfl, _, _, rfl, rfl, _, rfl, _, _, rfl, rfl, .ref c, rfl, _, rfl, _, rfl, ?_⟩
            refine ⟨c, xs, rfl, s5.seq sc, fun p7 np7 => ?_⟩
            rw [show (2 : Int) + (i : Int) = ((i + 2 : Nat) : Int) from by omega, cut_from]
            have t7 := same_new (o := .lst (xs.drop (i + 2))) np7
            have hp7 : Dp K (upd H6 p7 (.lst (xs.drop (i + 2)))) (.ref p7) (bsD (bs.drop (i + 2))) := by
              refine .lst (.inl (.inl upd_same)) ?_
              rw [List.map_drop]
              exact dpAll_drop (i + 2) (dpAll_mono (s5.trans t7) _ _ al)
            refine ⟨.ref p7, bs.drop (i + 2), rfl, hp7, by rw [List.length_drop]; omega, by rw [List.length_drop]; omega, fun H8 c8 s8 l8 => ?_⟩
            have ec := lm.uniq l8
            subst ec
            refine ⟨_, _, rfl, rfl, _, _, rfl, ?_⟩
            dsimp only
            have ev : ((i + 2 : Nat) : Int) - 1 + ((ownS bs (i + 2) t : Nat) : Int) + (cm : Int) = ((i + 2 - 1 + ownS bs (i + 2) t + cm : Nat) : Int) := by omega
            rw [ev]
            generalize hX : i + 2 - 1 + ownS bs (i + 2) t + cm = X at *
            rw [show (if ((X : Nat) : Int) < ((b' : Nat) : Int) then ((X : Nat) : Int) else ((b' : Nat) : Int)) = ((min b' X : Nat) : Int) from by split <;> omega]
            refine ⟨(s5.trans t7).trans s8, min b' X, _, _, rfl, by omega, fun s hs => ?_, ?_⟩
            · by_cases e : s = t
              · subst e; rw [hX]; omega
              · have := k2 s (by omega)
                omega
            · by_cases e : b' ≤ X
              · rcases k3 with z | ⟨s, hs, z⟩
                · exact .inl (by omega)
                · exact .inr ⟨s, by omega, by omega⟩
              · exact .inr ⟨t, by omega, by omega⟩
        · obtain ⟨s5, b', y3, y4, rfl, k1, k2, k3⟩ := p
          have eb : b' = min b (gc (bs.take (i + 2)) + cm) := by
            obtain ⟨s0, hs0, e0⟩ := own_at (l := bs) (m := i + 2) (by omega) hm
            have h1 := k2 s0 (by omega)
            rcases k3 with z | ⟨s, hs, z⟩
            · omega
            · have := own_le (l := bs) (m := i + 2) (s := s) (by omega) hm (by omega)
              omega
          rw [eb]
          exact ⟨s5, min b (gc (bs.take (i + 2)) + cm), _, _, _, rfl, hb.next (by omega) lm⟩
      · obtain ⟨s4, b, y2, y3, y4, rfl, hb⟩ := p
        rw [show ((bs.length : Int) + 1 - 2).toNat + 2 = bs.length + 1 from by omega] at hb
        exact ⟨_, rfl, q H4 b (s1.trans s4) (hb.least (by rw [← hbs]; simp))⟩
theorem ok_law_fewest (T : Tx K mg) : ∀ n : Nat, FnOk P w K mg base CX0 (n + 1) T.f_law_fewest T.fd_law_fewest ["bands"] (sp_law_fewest K n)
  | 0 => ⟨fun vs H Q E h => by
      obtain ⟨_, _, _, _, z, _⟩ := h
      omega, fun A outer s H args us vs Q E hr he hb hv h => by
      obtain ⟨_, _, _, _, z, _⟩ := h
      omega⟩
  | n + 1 => fewest_step T (Nat.succ_le_succ (Nat.zero_le n)) (ok_law_fewest T n)
end PS

namespace PS
open PySem PySem.Spec PyProof.Rows L2 LamX HT L2H
variable {P : Program} {w : World} {K : PySem.W.Frag} {mg : Str → Option Value} {base : Heap}
/-! ### the exception classes -/
abbrev exB : List Value := [.type "ValueError", .type "Exception", .type "BaseException", .type "object"]
/-- a class that is raised, caught as S, told by its kinds b1 .. b6 -/
structure Xc (K : PySem.W.Frag) (S k1 k2 k3 k4 k5 k6 D : Addr) (b1 b2 b3 b4 b5 b6 : Bool) : Prop where
  x : PySem.W.excIn K D exB "ValueError.__new__" = true
  k : PySem.W.keepIn K (.ref D) = true
  b : PySem.W.subIn K (.ref D) (.type "BaseException") = some true
  t : PySem.W.typeIn K (.ref D) = some (.type "type")
  e : PySem.W.exmOne K (.ref D) (.ref S) = some true
  c : ExcC K D
  i1 : PySem.W.kitOne K (.ref D) (.ref k1) = some b1
  i2 : PySem.W.kitOne K (.ref D) (.ref k2) = some b2
  i3 : PySem.W.kitOne K (.ref D) (.ref k3) = some b3
  i4 : PySem.W.kitOne K (.ref D) (.ref k4) = some b4
  i5 : PySem.W.kitOne K (.ref D) (.ref k5) = some b5
  i6 : PySem.W.kitOne K (.ref D) (.ref k6) = some b6
  i7 : PySem.W.kitOne K (.ref D) (.type "ValueError") = some true
structure Ux (K : PySem.W.Frag) (mg : Str → Option Value) where
  {C_ShelfError C_NoShelf C_NoStand C_NoRow C_NoDoing C_NoPush C_NoWish : Addr}
  g_ShelfError : mg "ShelfError" = some (.ref C_ShelfError)
  g_NoShelf : mg "NoShelf" = some (.ref C_NoShelf)
  g_NoStand : mg "NoStand" = some (.ref C_NoStand)
  g_NoRow : mg "NoRow" = some (.ref C_NoRow)
  g_NoDoing : mg "NoDoing" = some (.ref C_NoDoing)
  g_NoPush : mg "NoPush" = some (.ref C_NoPush)
  g_NoWish : mg "NoWish" = some (.ref C_NoWish)
  c_NoStand : Xc K C_ShelfError C_NoShelf C_NoStand C_NoRow C_NoDoing C_NoPush C_NoWish C_NoStand false true false false false false
  c_NoPush : Xc K C_ShelfError C_NoShelf C_NoStand C_NoRow C_NoDoing C_NoPush C_NoWish C_NoPush false false false false true false
  c_NoWish : Xc K C_ShelfError C_NoShelf C_NoStand C_NoRow C_NoDoing C_NoPush C_NoWish C_NoWish false false false false false true
/-! ### the name of a refusal -/
def kinN : List Str := ["NoShelf", "NoStand", "NoRow", "NoDoing", "NoPush", "NoWish", "+"]
def kinT (ns : List Str) (bs : List Bool) : List Str := ((ns.zip bs).filter (·.2)).map (·.1)
theorem kinT_succ {ns : List Str} {bs : List Bool} {i : Nat} {n : Str} {b : Bool} (h1 : ns[i]? = some n) (h2 : bs[i]? = some b) : kinT (ns.take (i + 1)) (bs.take (i + 1)) = kinT (ns.take i) (bs.take i) ++ (if b = true then [n] else []) := by
  unfold kinT
  have hl1 : i < ns.length := (List.getElem?_eq_some_iff.mp h1).1
  have hl2 : i < bs.length := (List.getElem?_eq_some_iff.mp h2).1
  rw [List.take_succ, List.take_succ, h1, h2, List.zip_append (by rw [List.length_take, List.length_take]; omega), List.filter_append, List.map_append]
  congr 1
  cases b <;> rfl
theorem walk_z {K : PySem.W.Frag} {a1 a2 : Addr} {xs ys : List V} {n : Nat} (h1 : n = xs.length) (h2 : n = ys.length) :
    Walk (Itz K a1 a2) n (fun H => SqL K H a1 xs ∧ SqL K H a2 ys) (fun i H v H' => ∃ T x y, v = .ref T ∧ H T = none ∧ H' = upd H T (.tup [x, y]) ∧ xs[i]? = some x ∧ ys[i]? = some y) where
  goes := fun i H hi g => ⟨xs, ys, xs[i], ys[i], g.1, g.2, List.getElem?_eq_getElem (by omega), List.getElem?_eq_getElem (by omega)⟩
  stops := fun H g => ⟨xs, ys, g.1, g.2, .inl (by omega)⟩
  yields := fun i H x H' hi g y => by
    obtain ⟨T, x, y, rfl, nT, rfl, f1, f2⟩ := y
    exact ⟨T, x, y, rfl, nT, rfl, f1 xs g.1, f2 ys g.2⟩
/-- D is the class of a refusal that is told as z -/
def Kin (U : Ux K mg) (D : Addr) (z : Str) : Prop := (D = U.C_NoStand ∧ z = "NoStand+") ∨ (D = U.C_NoPush ∧ z = "NoPush+") ∨ (D = U.C_NoWish ∧ z = "NoWish+")
theorem Kin.xc {U : Ux K mg} {D : Addr} {z : Str} (k : Kin U D z) : ∃ b1 b2 b3 b4 b5 b6, Xc K U.C_ShelfError U.C_NoShelf U.C_NoStand U.C_NoRow U.C_NoDoing U.C_NoPush U.C_NoWish D b1 b2 b3 b4 b5 b6 ∧ Txt.join "" (kinT kinN [b1, b2, b3, b4, b5, b6, true]) = z := by
  rcases k with ⟨rfl, rfl⟩ | ⟨rfl, rfl⟩ | ⟨rfl, rfl⟩
  · exact ⟨_, _, _, _, _, _, U.c_NoStand, by decide +kernel⟩
  · exact ⟨_, _, _, _, _, _, U.c_NoPush, by decide +kernel⟩
  · exact ⟨_, _, _, _, _, _, U.c_NoWish, by decide +kernel⟩
def sp_kin (U : Ux K mg) : Addr × Obj → Hp → VK → Prop := fun p H Q => ∃ D z, Kin U D z ∧ L2N.Zn (.ref D) none p.2 ∧ (∃ vs, p.2.data = .fields vs) ∧ ∀ H', Same H H' → Q (.str z) H'
theorem ok_law_kin (T : Tx K mg) (U : Ux K mg) : FnP P w K mg base 1 T.f_law_kin T.fd_law_kin "e" (sp_kin U) := by
  refine fnP_of T.F_law_kin sc_law_kin (fun cdv A outer s H Q p ho hr h => ?_)
  obtain ⟨D, z, kn, hz, hf, q⟩ := h
  obtain ⟨b1, b2, b3, b4, b5, b6, kf, ez⟩ := kn.xc
  have hot : HotC (cxH C8.CX0 P w K mg base ["e", "kinds_met", "names", "name", "good"] "_law_kin" (defScope s_law_kin) T.f_law_kin cdv A outer s H C8.E0 p) := ⟨p, ho, List.mem_singleton_self _⟩
  have hp : (p.1, p.2) ∈ [p] := List.mem_singleton_self _
  refine ⟨_, (pss_cons (ps_set (i := 1) sc_law_kin.nd rfl (.inl rfl) (pe_lst (pa_cons (pe_callB (call_isH kf.c hz.zc hf hp) (by rfl) T.n_isinstance (by decide +kernel) (pa_cons (pv 0) (pa_cons (pe_glob (v := .ref U.C_NoShelf) (by rfl) U.g_NoShelf rfl) pa_nil))) (pa_cons (pe_callB (call_isH kf.c hz.zc hf hp) (by rfl) T.n_isinstance (by decide +kernel) (pa_cons (pv 0) (pa_cons (pe_glob (v := .ref U.C_NoStand) (by rfl) U.g_NoStand rfl) pa_nil))) (pa_cons (pe_callB (call_isH kf.c hz.zc hf hp) (by rfl) T.n_isinstance (by decide +kernel) (pa_cons (pv 0) (pa_cons (pe_glob (v := .ref U.C_NoRow) (by rfl) U.g_NoRow rfl) pa_nil))) (pa_cons (pe_callB (call_isH kf.c hz.zc hf hp) (by rfl) T.n_isinstance (by decide +kernel) (pa_cons (pv 0) (pa_cons (pe_glob (v := .ref U.C_NoDoing) (by rfl) U.g_NoDoing rfl) pa_nil))) pa_nil))))))
      (pss_cons (ps_set (i := 1) sc_law_kin.nd rfl (.inl rfl) (pe_op op_cat (pv 1) (pe_lst (pa_cons (pe_callB (call_isH kf.c hz.zc hf hp) (by rfl) T.n_isinstance (by decide +kernel) (pa_cons (pv 0) (pa_cons (pe_glob (v := .ref U.C_NoPush) (by rfl) U.g_NoPush rfl) pa_nil))) (pa_cons (pe_callB (call_isH kf.c hz.zc hf hp) (by rfl) T.n_isinstance (by decide +kernel) (pa_cons (pv 0) (pa_cons (pe_glob (v := .ref U.C_NoWish) (by rfl) U.g_NoWish rfl) pa_nil))) (pa_cons (pe_callB (call_isH kf.c hz.zc hf hp) (by rfl) T.n_isinstance (by decide +kernel) (pa_cons (pv 0) (pa_cons (pe_bltn (v := .ty "ValueError") (by rfl) T.n_ValueError (by decide +kernel) rfl) pa_nil))) pa_nil))))))
      (pss_cons (ps_set (i := 2) sc_law_kin.nd rfl (.inl rfl) (pe_lst (pa_cons pe_str (pa_cons pe_str (pa_cons pe_str (pa_cons pe_str (pa_cons pe_str (pa_cons pe_str (pa_cons pe_str pa_nil)))))))))
      (pss_one (ps_ret (pe_join pe_str (pe_lcH (own := [("name", 3), ("good", 4)]) (g := gTup K 2 (gCons (gName 3) (gCons (gName 4) gNil))) hot sc_law_kin.nd (pi_zipH (by rfl) T.n_zip (pa_cons (pv 2) (pa_cons (pv 1) pa_nil))) (blkOk_by (own := [("name", 3), ("good", 4)]) (N := ["e", "kinds_met", "names", "name", "good"]) (sc := defScope s_law_kin) (by decide +kernel)) (fun _ _ _ _ _ => (pg_tupH (HotC.blk hot) (pgs_cons (pg_name (i := 3) sc_law_kin.nd rfl (.inl rfl)) (pgs_cons (pg_name (i := 4) sc_law_kin.nd rfl (.inl rfl)) pgs_nil)))) (fun _ _ _ _ _ => pts_one (pt_val (pv 4))) (fun _ _ _ _ _ => (pv 3))))))))), ?_⟩
  refine ⟨_, rfl, _, _, _, rfl, fun _ r => r, kf.i1, ?_⟩
  refine ⟨_, rfl, _, _, _, rfl, fun _ r => r, kf.i2, ?_⟩
  refine ⟨_, rfl, _, _, _, rfl, fun _ r => r, kf.i3, ?_⟩
  refine ⟨_, rfl, _, _, _, rfl, fun _ r => r, kf.i4, by show 4 ≤ sizeLine; decide, fun l1 n1 => ?_⟩
  refine ⟨_, rfl, ?_⟩
  refine ⟨_, rfl, _, _, _, rfl, fun _ r => r, kf.i5, ?_⟩
  refine ⟨_, rfl, _, _, _, rfl, fun _ r => r, kf.i6, ?_⟩
  refine ⟨_, rfl, _, _, _, rfl, fun _ r => r, kf.i7, by show 3 ≤ sizeLine; decide, fun l2 n2 => ?_⟩
  have ne12 : l1 ≠ l2 := ne_of_none upd_same n2
  refine ⟨l1, l2, _, _, rfl, rfl, by rw [upd_ne ne12, upd_same], upd_same, by show 4 + 3 ≤ sizeLine; decide, fun l3 n3 => ?_⟩
  have t3 := ((same_new (o := .lst [.bl b1, .bl b2, .bl b3, .bl b4]) n1).trans (same_new (o := .lst [.bl b5, .bl b6, .bl true]) n2)).trans (same_new (o := .lst ([.bl b1, .bl b2, .bl b3, .bl b4] ++ [.bl b5, .bl b6, .bl true])) n3)
  have h3 : (upd (upd (upd H l1 (.lst [.bl b1, .bl b2, .bl b3, .bl b4])) l2 (.lst [.bl b5, .bl b6, .bl true])) l3 (.lst ([.bl b1, .bl b2, .bl b3, .bl b4] ++ [.bl b5, .bl b6, .bl true]))) l3 = some (.lst ([b1, b2, b3, b4, b5, b6, true].map V.bl)) := upd_same
  refine ⟨by show 7 ≤ sizeLine; decide, fun l4 n4 => ?_⟩
  have t4 := t3.trans (same_new (o := .lst [.str "NoShelf", .str "NoStand", .str "NoRow", .str "NoDoing", .str "NoPush", .str "NoWish", .str "+"]) n4)
  have h3 := same_new (o := .lst [.str "NoShelf", .str "NoStand", .str "NoRow", .str "NoDoing", .str "NoPush", .str "NoWish", .str "+"]) n4 _ _ h3
  have h4 : upd (upd (upd (upd H l1 (.lst [.bl b1, .bl b2, .bl b3, .bl b4])) l2 (.lst [.bl b5, .bl b6, .bl true])) l3 (.lst ([.bl b1, .bl b2, .bl b3, .bl b4] ++ [.bl b5, .bl b6, .bl true]))) l4 (.lst [.str "NoShelf", .str "NoStand", .str "NoRow", .str "NoDoing", .str "NoPush", .str "NoWish", .str "+"]) l4 = some (.lst (kinN.map V.str)) := upd_same
  generalize upd (upd (upd (upd H l1 (.lst [.bl b1, .bl b2, .bl b3, .bl b4])) l2 (.lst [.bl b5, .bl b6, .bl true])) l3 (.lst ([.bl b1, .bl b2, .bl b3, .bl b4] ++ [.bl b5, .bl b6, .bl true]))) l4 (.lst [.str "NoShelf", .str "NoStand", .str "NoRow", .str "NoDoing", .str "NoPush", .str "NoWish", .str "+"]) = H4 at *
  generalize ebs : [b1, b2, b3, b4, b5, b6, true] = bs at *
  have hbs : bs.length = 7 := by rw [← ebs]; rfl
  refine ⟨⟨_, rfl⟩, _, rfl, _, rfl, l4, l3, _, _, rfl, .inl (.inl h4), .inl (.inl h3), fun D nD => ?_⟩
  refine lc_it (walk_z (n := 7) (xs := kinN.map V.str) (ys := bs.map V.bl) rfl (by rw [List.length_map, hbs])) (fun i H' => Same H4 H' ∧ H' D = some (.lst ((kinT (kinN.take i) (bs.take i)).map V.str))) ⟨same_new nD, upd_same⟩
    (fun i H' _ pp => ⟨.inl (.inl (pp.1 _ _ h4)), .inl (.inl (pp.1 _ _ h3))⟩) (fun i x H' H2 hi pp yy => ?_) (fun H' pp => ?_)
  · obtain ⟨Tt, x, y, rfl, nT, rfl, hx, hy⟩ := yy
    rw [List.getElem?_map, List.getElem?_eq_getElem (show i < kinN.length from hi)] at hx
    rw [List.getElem?_map, List.getElem?_eq_getElem (show i < bs.length by omega)] at hy
    obtain rfl := Option.some.inj hx
    obtain rfl := Option.some.inj hy
    have es := kinT_succ (List.getElem?_eq_getElem (show i < kinN.length from hi)) (List.getElem?_eq_getElem (show i < bs.length by omega))
    have s2 := pp.1.trans (same_new (o := .tup [.str (kinN[i]'hi), .bl (bs[i]'(by omega))]) nT)
    have d2 := same_new (o := .tup [.str (kinN[i]'hi), .bl (bs[i]'(by omega))]) nT _ _ pp.2
    refine ⟨Tt, _, rfl, .inl (.inl upd_same), rfl, _, _, rfl, _, [], rfl, rfl, rfl, ?_⟩
    refine ⟨_, rfl, _, rfl, ?_⟩
    have len : ((kinT (kinN.take i) (bs.take i)).map V.str).length < sizeLine := by
      rw [List.length_map]
      unfold kinT
      rw [List.length_map]
      refine Nat.lt_of_le_of_lt (List.length_filter_le _ _) ?_
      rw [List.length_zip, List.length_take]
      exact Nat.lt_of_le_of_lt (Nat.min_le_left _ _) (Nat.lt_of_le_of_lt (Nat.min_le_left _ _) (Nat.lt_trans hi (by decide)))
    cases eb : bs[i]'(by omega) with
    | true =>
      rw [eb] at es s2 d2
      rw [if_pos rfl] at es
      refine iteT ⟨_, rfl, _, d2, len, ?_, ?_⟩
      · exact fun b o e => by
          rw [upd_ne (fun z => by rw [z] at e; rw [nD] at e; cases e)]
          exact s2 _ _ e
      · rw [es, List.map_append]
        exact upd_same
    | false =>
      rw [eb] at es s2 d2
      rw [if_neg (by simp), List.append_nil] at es
      exact iteF ⟨s2, by rw [es]; exact d2⟩
  · obtain ⟨s5, d5⟩ := pp
    rw [List.take_of_length_le (show kinN.length ≤ 7 from Nat.le_refl _), List.take_of_length_le (by omega)] at d5
    have hb : ((kinT kinN bs).map (·.length)).sum + (kinT kinN bs).length * ("" : Str).length ≤ 16777216 := by
      rw [← ebs]
      cases b1 <;> cases b2 <;> cases b3 <;> cases b4 <;> cases b5 <;> cases b6 <;> decide +kernel
    refine ⟨_, D, kinT kinN bs, rfl, rfl, .inl (.inl (.inl d5)), hb, ?_⟩
    rw [ez]
    exact q _ (t4.trans s5)
/-! ### what is told of a door -/
theorem takesF {X : Cx} : L2N.Takes X (fun _ _ _ _ => False) := fun _ _ x => by
  obtain ⟨_, _, _, _, _, _, _, _, _, _, _, _, _, _, _, _, z⟩ := x
  exact z.elim
theorem pe_weak {X : Cx} {e : Expr} {t : TE} (h : PE X e t) : PE X e (fun σ H Q => ∃ Q0 : VK, t σ H Q0 ∧ ∀ v H', Q0 v H' → Q v H') := ⟨fun pins s σ H Q I ⟨Q0, h1, m⟩ =>
  wpAny_mono (h.run pins s σ H Q0 I h1) (fun _ _ ⟨x, H', I', r, q⟩ => ⟨x, H', I', r, m _ _ q⟩) fun _ _ z => z⟩
def TTr (U : Ux K mg) : (XK → Hp → VK → Prop) → Hp → VK → Prop := fun tl H Q =>
  tl (fun cls d H' => ∃ D z, Kin U D z ∧ cls = .ref D ∧ d = none ∧ ∀ H2, Same H' H2 → Q (.str z) H2) H (fun v H' => ∀ t, H' t = none → Q (.ref t) (upd H' t (.tup [.str "told", v])))
theorem gets_law_try {X : Cx} {K : PySem.W.Frag} {mg : Str → Option Value} (hK : X.K = K) (hM : X.mg = mg) (T : Tx K mg) (U : Ux K mg) {cdg : Value} {q : Str} (hr : RoomH 3 X.A) :
    GetsN X ["door", "found", "e"] "_law_try" (defScope s_law_try) T.f_law_try cdg (defBody s_law_try) "door" q (TTr U) := by
  subst hK hM
  intro f c s H Q tl act hc h
  have G_law_kin := ok_law_kin (P := X.prog) (w := X.w) (base := X.base) T U
  refine ⟨_, pss_cons (ps_set (i := 1) sc_law_try.nd rfl (.inl rfl) pe_non) (pss_cons (L2N.ps_try_as (X := (gotCx X ["door", "found", "e"] "_law_try" (defScope s_law_try) T.f_law_try cdg s H).nox) (i := 2) (c := .ref U.C_ShelfError)
      (tb := fun W D σ H => ∃ (E : XK) (Q0 : VK), (∀ cls d H', E cls d H' → W cls d σ H') ∧ σ[0]? = some (some (.ref f)) ∧ H c = some (CodeO c q) ∧ tl E H Q0 ∧ ∀ v H1, Q0 v H1 → ∀ t, H1 t = none → D.nx (σ.set 1 (some (.ref t))) (upd H1 t (.tup [.str "told", v])))
      (ts := fun a cls d D σ H => σ[2]? = some (some (.ref a)) ∧ ∃ Dd z, Kin U Dd z ∧ cls = .ref Dd ∧ d = none ∧ ∀ H2, Same H H2 → D.nx (σ.set 1 (some (.str z))) H2)
      rfl rfl sc_law_try.nd rfl rfl ⟨rfl, by decide, .inl U.g_ShelfError⟩ takesF (fun W pn xe tk _ => ⟨fun pins s' σ H' D I h' => ?_⟩) (fun a oe cls d pn hz hf => ⟨fun pins s' σ H' D I h' => ?_⟩)) (pss_one (ps_ret (pv 1)))), ?_⟩
  · obtain ⟨E, Q0, hW, h1, h2, h3, h4⟩ := h'
    refine PSs.run (pss_one (ps_set (X := ((gotCx X ["door", "found", "e"] "_law_try" (defScope s_law_try) T.f_law_try cdg s H).nox).tr pn xe) (i := 1) sc_law_try.nd rfl (.inl rfl) (pe_tup (pa_cons pe_str (pa_cons (pe_weak (act W pn xe E _ _ tk)) pa_nil))))) pins s' σ H' D I ?_
    exact ⟨Q0, ⟨h1, h2, hW, h3⟩, fun v H1 hq => ⟨by show 2 ≤ sizeLine; decide, fun t nt => h4 v H1 hq t nt⟩⟩
  · obtain ⟨h1, Dd, z, kn, rfl, rfl, h2⟩ := h'
    refine PSs.run (pss_one (ps_set (X := ((gotCx X ["door", "found", "e"] "_law_try" (defScope s_law_try) T.f_law_try cdg s H).nox).suite a ((a, oe) :: pn)) (i := 1) sc_law_try.nd rfl (.inl rfl)
      (pe_callP (x := "_law_kin") (n := "e") (X := (gotCx X ["door", "found", "e"] "_law_try" (defScope s_law_try) T.f_law_try cdg s H).nox) (i := 2) G_law_kin ((hr.mono (by decide)).deeper _) hz.2.2 hf rfl T.g_law_kin T.F_law_kin.kp T.b_law_kin rfl (.inl rfl)))) pins s' σ H' D I ?_
    exact ⟨h1, Dd, z, kn, hz, hf, fun H2 s2 => h2 H2 s2⟩
  · refine ⟨_, _, fun cls d H' hE => ?_, rfl, hc, h, fun v H1 hq t nt => ⟨_, rfl, hq t nt⟩⟩
    obtain ⟨D, z, kn, rfl, rfl, hq⟩ := hE
    obtain ⟨_, _, _, _, _, _, xc, _⟩ := kn.xc
    exact ⟨true, xc.e, fun _ a na => ⟨rfl, D, z, kn, rfl, rfl, fun H2 s2 => ⟨_, rfl, hq H2 s2⟩⟩, fun z => Bool.noConfusion z⟩
end PS

namespace PS
open PySem PySem.Spec PyProof.Rows L2 LamX HT L2H
variable {P : Program} {w : World} {K : PySem.W.Frag} {mg : Str → Option Value} {base : Heap}
/-! ### refusals -/
theorem push_data {room : Int} {ls : List Int} {d : PyData} (h : isPush room ls d = true) : ∃ p, d = puD ls p ∧ PuOk ls.length (room - ls.sum) p := by
  unfold isPush at h
  split at h
  · rename_i s g p
    split at h
    · rename_i hg
      obtain ⟨k, rfl⟩ := isGap_int hg
      obtain ⟨i, rfl, i0, i1⟩ := within_int h
      have e : (intOf (.int (k : Int))).toNat = k := by simp [intOf]
      rw [e] at i0 i1
      unfold isGap at hg
      by_cases c1 : PyData.eqv s (.str "right") = true
      · rw [if_pos c1] at hg
        obtain ⟨j, e1, j0, j1⟩ := within_int hg
        cases e1
        have es : s = .str "right" := by
          cases s with
          | str x =>
            have : (x == ("right" : Str)) = true := by simpa [PyData.eqv] using c1
            rw [eq_of_beq this]
          | _ => simp [PyData.eqv] at c1
        refine ⟨(true, k, i - pre ls k), ?_, ⟨fun _ => by simp only; omega, fun z => by simp at z, by simp only; omega, by simp only; omega⟩⟩
        subst es
        show PyData.tuple [.str "right", .int k, .int i] = PyData.tuple [.str "right", .int k, .int (i - pre ls k + pre ls k)]
        rw [show i - pre ls k + pre ls k = i from by omega]
      · rw [if_neg c1] at hg
        by_cases c2 : PyData.eqv s (.str "left") = true
        · rw [if_pos c2] at hg
          obtain ⟨j, e1, j0, j1⟩ := within_int hg
          cases e1
          have es : s = .str "left" := by
            cases s with
            | str x =>
              have : (x == ("left" : Str)) = true := by simpa [PyData.eqv] using c2
              rw [eq_of_beq this]
            | _ => simp [PyData.eqv] at c2
          refine ⟨(false, k, i - pre ls k), ?_, ⟨fun z => by simp at z, fun _ => by simp only; omega, by simp only; omega, by simp only; omega⟩⟩
          subst es
          show PyData.tuple [.str "left", .int k, .int i] = PyData.tuple [.str "left", .int k, .int (i - pre ls k + pre ls k)]
          rw [show i - pre ls k + pre ls k = i from by omega]
        · rw [if_neg c2] at hg
          cases hg
    · cases h
  · cases h
def spx_need_stand (U : Ux K mg) : Sp := fun vs H Q E => ∃ v u room ls d, vs = [v, u] ∧ Dp K H v (shD room ls) ∧ ShOk room ls ∧ Dp K H u d ∧ ∀ H', Same H H' → (isStand room ls d = true → Q .non H') ∧ (isStand room ls d = false → E (.ref U.C_NoStand) none H')
theorem okx_need_stand (T : Tx K mg) (U : Ux K mg) : FnOk P w K mg base (CXn P w) 7 T.f_need_stand T.fd_need_stand ["shelf", "thing"] (spx_need_stand U) := by
  have G_is_stand := ok_is_stand (P := P) (w := w) (base := base) T
  refine funX T.F_need_stand sc_need_stand (fun vs H Q E h => ?_) (fun cdv A outer s H vs Q E hr h => ?_)
  · obtain ⟨v, u, _, _, d, rfl, _⟩ := h
    rfl
  · obtain ⟨v, u, room, ls, d, rfl, hs, sh, hd, q⟩ := h
    refine ⟨_, (pss_one (ps_if (pt_not (pt_val (pe_call (G_is_stand.mono (by first | decide | omega)) hr (by rfl) T.g_is_stand T.F_is_stand.kp T.b_is_stand .nil pass0 (pa_cons (pv 0) (pa_cons (pv 1) pa_nil))))) (pss_one (L2N.ps_raise rfl (L2N.takes_of rfl rfl rfl rfl) (L2N.pmk_own PySem.F.excBase_ValueError U.c_NoStand.x U.g_NoStand U.c_NoStand.k (raises_own U.c_NoStand.b U.c_NoStand.t) rfl))) pss_nil)), ?_⟩
    refine ⟨v, rfl, u, rfl, v, u, room, ls, d, rfl, hs, sh, hd, fun H' sm => ⟨_, rfl, ?_⟩⟩
    cases e : isStand room ls d with
    | true => exact iteF ((q H' sm).1 e)
    | false => exact iteT ((q H' sm).2 e)
def spx_Bench_push (U : Ux K mg) (C : Addr) : Sp := fun vs H Q E => ∃ (x : Addr) (u : V) (room : Int) (ls : List Int) (y lo hi : Nat → Int) (many : Int) (wi : Option (Nat → Int)) (d : PyData), vs = [.ref x, u] ∧ BenchAt K C H x room ls y lo hi many wi ∧ ShOk room ls ∧ Dp K H u d ∧ d.depth ≤ 64 ∧ Rise ls.length (room - ls.sum) y ∧ Rise ls.length (room - ls.sum) lo ∧ Rise ls.length (room - ls.sum) hi ∧
  (∀ p, d = puD ls p → PuOk ls.length (room - ls.sum) p → ∀ H', Same (Off x H) (Off x H') → BenchAt K C H' x room ls (doP y p) (doP lo p) (doP hi p) (many + 1) wi → Q .non H') ∧ (isPush room ls d = false → ∀ H', Same H H' → E (.ref U.C_NoPush) none H')
theorem okx_Bench_push (T : Tx K mg) (U : Ux K mg) : FnOk P w K mg base (CXn P w) 5 T.f_Bench_push T.fd_Bench_push ["self", "thing"] (spx_Bench_push U T.C_Bench) := by
  have G_is_push := ok_is_push (P := P) (w := w) (base := base) T
  have G_pushed := ok_pushed (P := P) (w := w) (base := base) T
  refine funX T.F_Bench_push sc_Bench_push (fun vs H Q E h => ?_) (fun cdv A outer s H vs Q E hr h => ?_)
  · obtain ⟨_, _, _, _, _, _, _, _, _, _, rfl, _⟩ := h
    rfl
  · obtain ⟨x, u, room, ls, y, lo, hi, many, wi, d, rfl, ⟨dx, v1, v2, v3, v4, v6, hx, h1, h2, h3, h4, h6⟩, sh, hu, dd, r2, r3, r4, q, qx⟩ := h
    refine ⟨_, (pss_cons (ps_if (pt_not (pt_val (pe_call (G_is_push.mono (by first | decide | omega)) hr (by rfl) T.g_is_push T.F_is_push.kp T.b_is_push .nil pass0 (pa_cons (pe_fld (pv 0) rfl) (pa_cons (pv 1) pa_nil))))) (pss_one (L2N.ps_raise rfl (L2N.takes_of rfl rfl rfl rfl) (L2N.pmk_own PySem.F.excBase_ValueError U.c_NoPush.x U.g_NoPush U.c_NoPush.k (raises_own U.c_NoPush.b U.c_NoPush.t) rfl))) pss_nil)
      (pss_cons (ps_fld (pv 0) (pe_call (G_pushed.mono (by first | decide | omega)) hr (by rfl) T.g_pushed T.F_pushed.kp T.b_pushed .nil pass0 (pa_cons (pe_fld (pv 0) rfl) (pa_cons (pe_fld (pv 0) rfl) (pa_cons (pv 1) pa_nil)))) rfl)
      (pss_cons (ps_fld (pv 0) (pe_call (G_pushed.mono (by first | decide | omega)) hr (by rfl) T.g_pushed T.F_pushed.kp T.b_pushed .nil pass0 (pa_cons (pe_fld (pv 0) rfl) (pa_cons (pe_fld (pv 0) rfl) (pa_cons (pv 1) pa_nil)))) rfl)
      (pss_cons (ps_fld (pv 0) (pe_call (G_pushed.mono (by first | decide | omega)) hr (by rfl) T.g_pushed T.F_pushed.kp T.b_pushed .nil pass0 (pa_cons (pe_fld (pv 0) rfl) (pa_cons (pe_fld (pv 0) rfl) (pa_cons (pv 1) pa_nil)))) rfl)
      (pss_one (ps_fldaug (pv 0) pe_int in_add)))))), ?_⟩
    have n8 := sh.n8
    have hu := dp_offI hx _ _ hu
    refine ⟨.ref x, rfl, x, T.C_Bench, dx, _, _, rfl, hx, T.cl_Bench, T.na_Bench_shelf, rfl, u, rfl, v1, u, room, ls, _, rfl, Dpm (off_same x H) h1, Dpm (off_same x H) hu, dd, fun H1 s1 => ⟨_, rfl, ?_⟩⟩
    cases ep : isPush room ls d with
    | false => exact iteT (qx ep H1 s1)
    | true =>
    obtain ⟨p, rfl, pk⟩ := push_data ep
    refine iteF ?_
    have m1 := off_mono (k := x) s1
    have hx1 := s1 _ _ hx
    have h1 := Dpm m1 h1; have h2 := Dpm m1 h2; have h3 := Dpm m1 h3; have h4 := Dpm m1 h4; have h6 := Dpm m1 h6; have hu := Dpm m1 hu
    have o1 := off_same x H1
    refine ⟨.ref x, rfl, x, T.C_Bench, dx, _, _, rfl, hx1, T.cl_Bench, T.na_Bench_shelf, rfl, .ref x, rfl, x, T.C_Bench, dx, _, _, rfl, hx1, T.cl_Bench, T.na_Bench_now, rfl, u, rfl, v1, v2, u, room, ls, y, p, _, rfl, Dpm o1 h1, Dpm o1 h2, Dpm o1 hu, r2, n8, pk, fun c H2 s2 hc => ?_⟩
    have hx2 := s2 _ _ hx1
    have hc := dp_offI hx2 _ _ hc
    refine ⟨_, rfl, x, T.C_Bench, dx, _, rfl, hx2, T.cl_Bench, T.na_Bench_now, (by show 6 < 1000; decide), ?_⟩
    generalize e3 : upd H2 x _ = H3
    obtain ⟨hx3, k3⟩ := wr e3
    have m3 := (off_mono (k := x) s2).trans k3
    have hc := Dpm k3 hc
    have h1 := Dpm m3 h1; have h3 := Dpm m3 h3; have h4 := Dpm m3 h4; have h6 := Dpm m3 h6; have hu := Dpm m3 hu
    have o3 := off_same x H3
    refine ⟨.ref x, rfl, x, T.C_Bench, dx, _, _, rfl, hx3, T.cl_Bench, T.na_Bench_shelf, rfl, .ref x, rfl, x, T.C_Bench, dx, _, _, rfl, hx3, T.cl_Bench, T.na_Bench_least, rfl, u, rfl, v1, v3, u, room, ls, lo, p, _, rfl, Dpm o3 h1, Dpm o3 h3, Dpm o3 hu, r3, n8, pk, fun d H4 s4 hd => ?_⟩
    have hx4 := s4 _ _ hx3
    have hd := dp_offI hx4 _ _ hd
    refine ⟨_, rfl, x, T.C_Bench, dx, _, rfl, hx4, T.cl_Bench, T.na_Bench_least, (by show 6 < 1000; decide), ?_⟩
    generalize e5 : upd H4 x _ = H5
    obtain ⟨hx5, k5⟩ := wr e5
    have m5 := (off_mono (k := x) s4).trans k5
    have hc := Dpm m5 hc
    have hd := Dpm k5 hd
    have h1 := Dpm m5 h1; have h4 := Dpm m5 h4; have h6 := Dpm m5 h6; have hu := Dpm m5 hu
    have o5 := off_same x H5
    refine ⟨.ref x, rfl, x, T.C_Bench, dx, _, _, rfl, hx5, T.cl_Bench, T.na_Bench_shelf, rfl, .ref x, rfl, x, T.C_Bench, dx, _, _, rfl, hx5, T.cl_Bench, T.na_Bench_greatest, rfl, u, rfl, v1, v4, u, room, ls, hi, p, _, rfl, Dpm o5 h1, Dpm o5 h4, Dpm o5 hu, r4, n8, pk, fun e H6 s6 he => ?_⟩
    have hx6 := s6 _ _ hx5
    have he := dp_offI hx6 _ _ he
    refine ⟨_, rfl, x, T.C_Bench, dx, _, rfl, hx6, T.cl_Bench, T.na_Bench_greatest, (by show 6 < 1000; decide), ?_⟩
    generalize e7 : upd H6 x _ = H7
    obtain ⟨hx7, k7⟩ := wr e7
    have m7 := (off_mono (k := x) s6).trans k7
    have he := Dpm k7 he
    have h1 := Dpm m7 h1; have h6 := Dpm m7 h6; have hc := Dpm m7 hc; have hd := Dpm m7 hd
    refine ⟨.ref x, rfl, x, T.C_Bench, dx, _, _, rfl, hx7, T.cl_Bench, T.na_Bench_many, rfl, _, _, rfl, rfl, dx, _, hx7, (by show 6 < 1000; decide), ?_⟩
    generalize e8 : upd H7 x _ = H8
    obtain ⟨hx8, k8⟩ := wr e8
    exact q p rfl pk H8 ((((m1.trans m3).trans m5).trans m7).trans k8) ⟨dx, _, _, _, _, _, hx8, Dpm k8 h1, Dpm k8 hc, Dpm k8 hd, Dpm k8 he, Dpm k8 h6⟩
def spx_Bench_set_wish (U : Ux K mg) (C : Addr) : Sp := fun vs H Q E => ∃ (x : Addr) (u : V) (room : Int) (ls : List Int) (y lo hi : Nat → Int) (many : Int) (wi : Option (Nat → Int)) (d : PyData), vs = [.ref x, u] ∧ BenchAt K C H x room ls y lo hi many wi ∧ ShOk room ls ∧ Dp K H u d ∧
  (∀ t, d = tI (stL ls t) → Rise ls.length (room - ls.sum) t → ∀ H', Same (Off x H) (Off x H') → BenchAt K C H' x room ls y lo hi many (some t) → Q .non H') ∧ (isStand room ls d = false → ∀ H', Same H H' → E (.ref U.C_NoStand) none H')
theorem okx_Bench_set_wish (T : Tx K mg) (U : Ux K mg) : FnOk P w K mg base (CXn P w) 8 T.f_Bench_set_wish T.fd_Bench_set_wish ["self", "wish"] (spx_Bench_set_wish U T.C_Bench) := by
  have GX_need_stand := okx_need_stand (P := P) (w := w) (base := base) T U
  have G_copied := ok_copied (P := P) (w := w) (base := base) T
  refine funX T.F_Bench_set_wish sc_Bench_set_wish (fun vs H Q E h => ?_) (fun cdv A outer s H vs Q E hr h => ?_)
  · obtain ⟨_, _, _, _, _, _, _, _, _, _, rfl, _⟩ := h
    rfl
  · obtain ⟨x, u, room, ls, y, lo, hi, many, wi, d, rfl, ⟨dx, v1, v2, v3, v4, v6, hx, h1, h2, h3, h4, h6⟩, sh, hu, q, qx⟩ := h
    refine ⟨_, (pss_cons (ps_expr (pe_call (GX_need_stand.mono (by first | decide | omega)) hr (by rfl) T.g_need_stand T.F_need_stand.kp T.b_need_stand .nil (L2N.passes_call (L2N.takes_of rfl rfl rfl rfl) fun _ _ _ _ h => h) (pa_cons (pe_fld (pv 0) rfl) (pa_cons (pv 1) pa_nil))))
      (pss_one (ps_fld (pv 0) (pe_call (G_copied.mono (by first | decide | omega)) hr (by rfl) T.g_copied T.F_copied.kp T.b_copied .nil pass0 (pa_cons (pv 1) pa_nil)) rfl))), ?_⟩
    have n8 := sh.n8
    have hu := dp_offI hx _ _ hu
    have o0 := off_same x H
    refine ⟨.ref x, rfl, x, T.C_Bench, dx, _, _, rfl, hx, T.cl_Bench, T.na_Bench_shelf, rfl, u, rfl, v1, u, room, ls, _, rfl, Dpm o0 h1, sh, Dpm o0 hu, fun H1 s1 => ⟨fun ei => ?_, fun ei => qx ei H1 s1⟩⟩
    obtain ⟨t, rfl, rt⟩ := stand_data ei
    have m1 := off_mono (k := x) s1
    have hx1 := s1 _ _ hx
    refine ⟨u, rfl, u, _, rfl, Dpm s1 (Dpm o0 hu), by rw [stL_len]; exact n8, fun c H2 s2 hc => ?_⟩
    have hx2 := s2 _ _ hx1
    have hc := dp_offI hx2 _ _ hc
    refine ⟨_, rfl, x, T.C_Bench, dx, _, rfl, hx2, T.cl_Bench, T.na_Bench_wish, (by show 6 < 1000; decide), ?_⟩
    generalize e3 : upd H2 x _ = H3
    obtain ⟨hx3, k3⟩ := wr e3
    have m3 := (m1.trans (off_mono (k := x) s2)).trans k3
    exact q t rfl rt H3 m3 ⟨dx, _, _, _, _, _, hx3, Dpm m3 h1, Dpm m3 h2, Dpm m3 h3, Dpm m3 h4, Dpm k3 hc⟩
def spx_Bench_fewest (U : Ux K mg) (C : Addr) : Sp := fun vs H Q E => ∃ (x : Addr) (room : Int) (ls : List Int) (y lo hi : Nat → Int) (many : Int) (wi : Option (Nat → Int)), vs = [.ref x] ∧ BenchAt K C H x room ls y lo hi many wi ∧ ShOk room ls ∧ Rise ls.length (room - ls.sum) y ∧
  (∀ t, wi = some t → Rise ls.length (room - ls.sum) t ∧ ∀ H' r, Same H H' → Best ls.length (room - ls.sum) y t r → Q (.int (r.length : Nat)) H') ∧ (wi = none → E (.ref U.C_NoWish) none H)
theorem okx_Bench_fewest (T : Tx K mg) (U : Ux K mg) : FnOk P w K mg base (CXn P w) 6 T.f_Bench_fewest T.fd_Bench_fewest ["self"] (spx_Bench_fewest U T.C_Bench) := by
  have G_shortest_row := ok_shortest_row (P := P) (w := w) (base := base) T
  refine funX T.F_Bench_fewest sc_Bench_fewest (fun vs H Q E h => ?_) (fun cdv A outer s H vs Q E hr h => ?_)
  · obtain ⟨_, _, _, _, _, _, _, _, rfl, _⟩ := h
    rfl
  · obtain ⟨x, room, ls, y, lo, hi, many, wi, rfl, ⟨dx, v1, v2, v3, v4, v6, hx, h1, h2, h3, h4, h6⟩, sh, ry, q, qx⟩ := h
    refine ⟨_, (pss_cons (ps_if (pt_cmpR op_isN (pe_fld (pv 0) rfl) pe_non (nomark _)) (pss_one (L2N.ps_raise rfl (L2N.takes_of rfl rfl rfl rfl) (L2N.pmk_own PySem.F.excBase_ValueError U.c_NoWish.x U.g_NoWish U.c_NoWish.k (raises_own U.c_NoWish.b U.c_NoWish.t) rfl))) pss_nil)
      (pss_one (ps_ret (pe_callB call_len_seq (by rfl) T.n_len (by decide +kernel) (pa_cons (pe_call (G_shortest_row.mono (by first | decide | omega)) hr (by rfl) T.g_shortest_row T.F_shortest_row.kp T.b_shortest_row .nil pass0 (pa_cons (pe_fld (pv 0) rfl) (pa_cons (pe_fld (pv 0) rfl) (pa_cons (pe_fld (pv 0) rfl) pa_nil)))) pa_nil))))), ?_⟩
    have o := off_same x H
    cases wi with
    | none =>
      have e6 : v6 = .non := by
        cases (show Dp K (Off x H) v6 .none from h6)
        rfl
      subst e6
      exact ⟨.ref x, rfl, x, T.C_Bench, dx, _, _, rfl, hx, T.cl_Bench, T.na_Bench_wish, rfl, rfl, _, rfl, iteT (qx rfl)⟩
    | some t =>
    obtain ⟨rt, q⟩ := q t rfl
    obtain ⟨b6, rfl, s6⟩ := dp_tI (show Dp K (Off x H) v6 (tI (stL ls t)) from h6)
    refine ⟨.ref x, rfl, x, T.C_Bench, dx, _, _, rfl, hx, T.cl_Bench, T.na_Bench_wish, rfl, rfl, _, rfl, iteF ?_⟩
    refine ⟨.ref x, rfl, x, T.C_Bench, dx, _, _, rfl, hx, T.cl_Bench, T.na_Bench_shelf, rfl, .ref x, rfl, x, T.C_Bench, dx, _, _, rfl, hx, T.cl_Bench, T.na_Bench_now, rfl, .ref x, rfl, x, T.C_Bench, dx, _, _, rfl, hx, T.cl_Bench, T.na_Bench_wish, rfl, v1, v2, .ref b6, room, ls, y, t, rfl, Dpm o h1, sh.n8, Dpm o h2, Dpm o h6, ry, rt, fun c H2 r us s2 nc hc al bst => ?_⟩
    have := dpAll_len al
    rw [List.length_map] at this
    refine ⟨c, us, rfl, .inl (.inl (.inl hc)), ?_⟩
    rw [this]
    exact q H2 r s2 bst
end PS

namespace PS
open PySem PySem.Spec PyProof.Rows L2 LamX HT L2H
variable {P : Program} {w : World} {K : PySem.W.Frag} {mg : Str → Option Value} {base : Heap}
/-- what isinstance and == ask of the class of benches -/
structure Bx (K : PySem.W.Frag) (C : Addr) : Prop where
  ca : PySem.W.findIn K (.ref C) "__class__" = some (some (.builtin "object.__class__"))
  cn : PySem.W.specialIn K (.builtin "object.__class__") "__get__" = some (some (.builtin "getset_descriptor.__get__"))
  ct : PySem.W.takesIn K (.builtin "object.__class__") = some true
  cm : PySem.W.mroIn K C (.type "object") = some true
  kt : PySem.W.kitOne K (.type "tuple") (.ref C) = some false
  nf : PySem.W.notFirst K C (.type "tuple") = true
theorem kit_self {K : PySem.W.Frag} {C : Addr} : PySem.W.kitOne K (.ref C) (.ref C) = some true := by
  unfold PySem.W.kitOne
  rw [if_pos (by simp)]
theorem nf_self {K : PySem.W.Frag} {C : Addr} : PySem.W.notFirst K C (.ref C) = true := by simp [PySem.W.notFirst]
def benEq (ls : List Int) (y lo hi : Nat → Int) (m : Int) (wi : Option (Nat → Int)) (y2 lo2 hi2 : Nat → Int) (m2 : Int) (wi2 : Option (Nat → Int)) : Bool :=
  PyData.eqv (tI (stL ls y)) (tI (stL ls y2)) && (PyData.eqv (tI (stL ls lo)) (tI (stL ls lo2)) && (PyData.eqv (tI (stL ls hi)) (tI (stL ls hi2)) && (decide (m = m2) && PyData.eqv (wiD ls wi) (wiD ls wi2))))
theorem depth_wiD (ls : List Int) (wi : Option (Nat → Int)) : (wiD ls wi).depth ≤ 64 := by
  cases wi with
  | none => show (0 : Nat) ≤ 64; decide
  | some t => exact Nat.le_trans (depth_tI _) (by decide)
theorem depth_tI' (ns : List Int) : (tI ns).depth ≤ 64 := Nat.le_trans (depth_tI ns) (by decide)
theorem depth_shD (room : Int) (ls : List Int) : (shD room ls).depth ≤ 64 := by
  have := depth_tI ls
  simp only [shD, PyData.depth, PyData.depthAll] at this ⊢
  omega
def sp_Bench_eq (K : PySem.W.Frag) (C : Addr) : Sp := fun vs H Q _ => ∃ (x : Addr) (u : V) (room : Int) (ls : List Int) (y lo hi : Nat → Int) (m : Int) (wi : Option (Nat → Int)), vs = [.ref x, u] ∧ BenchAt K C H x room ls y lo hi m wi ∧
  ((∃ (x2 : Addr) (y2 lo2 hi2 : Nat → Int) (m2 : Int) (wi2 : Option (Nat → Int)), u = .ref x2 ∧ BenchAt K C H x2 room ls y2 lo2 hi2 m2 wi2 ∧ Q (.bl (benEq ls y lo hi m wi y2 lo2 hi2 m2 wi2)) H) ∨ ∃ ns, Dp K H u (tI ns) ∧ Q (.bl false) H)
theorem ok_Bench_eq (T : Tx K mg) (B : Bx K T.C_Bench) : FnOk P w K mg base CX0 1 T.f_Bench_eq T.fd_Bench_eq ["self", "other"] (sp_Bench_eq K T.C_Bench) := by
  refine T.F_Bench_eq.ok sc_Bench_eq (fun vs H Q E h => ?_) (fun cdv A outer s H vs Q E hr h => ?_)
  · obtain ⟨_, _, _, _, _, _, _, _, _, rfl, _⟩ := h
    rfl
  · obtain ⟨x, u, room, ls, y, lo, hi, m, wi, rfl, ⟨dx, v1, v2, v3, v4, v6, hx, h1, h2, h3, h4, h6⟩, q⟩ := h
    refine ⟨_, (pss_one (ps_ret (pe_and (pe_callB call_isi (by rfl) T.n_isinstance (by decide +kernel) (pa_cons (pv 1) (pa_cons (pe_glob (v := .ref T.C_Bench) (by rfl) T.g_Bench rfl) pa_nil))) (pe_and (pe_cmpR (op_eqP hr.units) (pe_fld (pv 0) rfl) (pe_fld (pv 1) rfl) (nomark _)) (pe_and (pe_cmpR (op_eqP hr.units) (pe_fld (pv 0) rfl) (pe_fld (pv 1) rfl) (nomark _)) (pe_and (pe_cmpR (op_eqP hr.units) (pe_fld (pv 0) rfl) (pe_fld (pv 1) rfl) (nomark _)) (pe_and (pe_cmpR (op_eqP hr.units) (pe_fld (pv 0) rfl) (pe_fld (pv 1) rfl) (nomark _)) (pe_and (pe_cmpR op_eq (pe_fld (pv 0) rfl) (pe_fld (pv 1) rfl) (nomark _)) (pe_one (pe_cmpR (op_eqP hr.units) (pe_fld (pv 0) rfl) (pe_fld (pv 1) rfl) (nomark _))))))))))), ?_⟩
    have o := off_same x H
    rcases q with ⟨x2, y2, lo2, hi2, m2, wi2, rfl, ⟨dz, u1, u2, u3, u4, u6, hz, k1, k2, k3, k4, k6⟩, q⟩ | ⟨ns, hu, q⟩
    · have o2 := off_same x2 H
      refine ⟨_, rfl, _, _, _, _, true, rfl, .own _, .base (.ins hz T.cl_Bench B.ca B.cn B.ct B.cm), kit_self, _, rfl, iteT ?_⟩
      refine ⟨_, rfl, x, T.C_Bench, dx, _, _, rfl, hx, T.cl_Bench, T.na_Bench_shelf, rfl, _, rfl, x2, T.C_Bench, dz, _, _, rfl, hz, T.cl_Bench, T.na_Bench_shelf, rfl, _, _, Dpm o h1, Dpm o2 k1, depth_shD room ls, _, rfl, ?_⟩
      rw [eqv_self h1]
      refine iteT ?_
      refine ⟨_, rfl, x, T.C_Bench, dx, _, _, rfl, hx, T.cl_Bench, T.na_Bench_now, rfl, _, rfl, x2, T.C_Bench, dz, _, _, rfl, hz, T.cl_Bench, T.na_Bench_now, rfl, _, _, Dpm o h2, Dpm o2 k2, depth_tI' _, _, rfl, ?_⟩
      unfold benEq at q
      cases e2 : PyData.eqv (tI (stL ls y)) (tI (stL ls y2)) with
      | false => rw [e2] at q; exact iteF q
      | true =>
      rw [e2] at q
      refine iteT ?_
      refine ⟨_, rfl, x, T.C_Bench, dx, _, _, rfl, hx, T.cl_Bench, T.na_Bench_least, rfl, _, rfl, x2, T.C_Bench, dz, _, _, rfl, hz, T.cl_Bench, T.na_Bench_least, rfl, _, _, Dpm o h3, Dpm o2 k3, depth_tI' _, _, rfl, ?_⟩
      cases e3 : PyData.eqv (tI (stL ls lo)) (tI (stL ls lo2)) with
      | false => rw [e3] at q; exact iteF q
      | true =>
      rw [e3] at q
      refine iteT ?_
      refine ⟨_, rfl, x, T.C_Bench, dx, _, _, rfl, hx, T.cl_Bench, T.na_Bench_greatest, rfl, _, rfl, x2, T.C_Bench, dz, _, _, rfl, hz, T.cl_Bench, T.na_Bench_greatest, rfl, _, _, Dpm o h4, Dpm o2 k4, depth_tI' _, _, rfl, ?_⟩
      cases e4 : PyData.eqv (tI (stL ls hi)) (tI (stL ls hi2)) with
      | false => rw [e4] at q; exact iteF q
      | true =>
      rw [e4] at q
      refine iteT ?_
      refine ⟨_, rfl, x, T.C_Bench, dx, _, _, rfl, hx, T.cl_Bench, T.na_Bench_many, rfl, _, rfl, x2, T.C_Bench, dz, _, _, rfl, hz, T.cl_Bench, T.na_Bench_many, rfl, rfl, _, rfl, ?_⟩
      have em : decide (V.int m = V.int m2) = decide (m = m2) := by
        by_cases e : m = m2
        · subst e; simp
        · rw [decide_eq_false e]
          exact decide_eq_false fun z => e (by cases z; rfl)
      rw [em]
      cases e5 : decide (m = m2) with
      | false => rw [e5] at q; exact iteF q
      | true =>
      rw [e5] at q
      refine iteT ?_
      exact ⟨_, rfl, x, T.C_Bench, dx, _, _, rfl, hx, T.cl_Bench, T.na_Bench_wish, rfl, _, rfl, x2, T.C_Bench, dz, _, _, rfl, hz, T.cl_Bench, T.na_Bench_wish, rfl, _, _, Dpm o h6, Dpm o2 k6, depth_wiD ls wi, q⟩
    · exact ⟨_, rfl, _, _, _, _, false, rfl, .own _, dp_ty hu, B.kt, _, rfl, iteF q⟩
def sp_Bench_len (K : PySem.W.Frag) (C : Addr) : Sp := fun vs H Q _ => ∃ (x : Addr) (room : Int) (ls : List Int) (y lo hi : Nat → Int) (m : Int) (wi : Option (Nat → Int)), vs = [.ref x] ∧ BenchAt K C H x room ls y lo hi m wi ∧ Q (.int ls.length) H
theorem ok_Bench_len (T : Tx K mg) : FnOk P w K mg base CX0 1 T.f_Bench_len T.fd_Bench_len ["self"] (sp_Bench_len K T.C_Bench) := by
  refine T.F_Bench_len.ok sc_Bench_len (fun vs H Q E h => ?_) (fun cdv A outer s H vs Q E hr h => ?_)
  · obtain ⟨_, _, _, _, _, _, _, _, rfl, _⟩ := h
    rfl
  · obtain ⟨x, room, ls, y, lo, hi, m, wi, rfl, ⟨dx, v1, v2, v3, v4, v6, hx, h1, h2, h3, h4, h6⟩, q⟩ := h
    obtain ⟨a, b, rfl, sa, sb⟩ := dp_shelf (Dpm (off_same x H) h1)
    refine ⟨_, (pss_one (ps_ret (pe_callB call_len_seq (by rfl) T.n_len (by decide +kernel) (pa_cons (pe_ix ix_tup (pe_fld (pv 0) rfl) pe_int (fun _ _ => rfl)) pa_nil)))), ?_⟩
    refine ⟨_, rfl, x, T.C_Bench, dx, _, _, rfl, hx, T.cl_Bench, T.na_Bench_shelf, rfl, a, _, 1, _, rfl, rfl, sa, atI_nat (j := 1) rfl, b, _, rfl, .inr sb, ?_⟩
    rw [iV_len]
    exact q
/-! ### benches beside tables and one another -/
theorem BenchAt.ext {C : Addr} {H H' : Hp} {x : Addr} {room : Int} {ls : List Int} {y lo hi : Nat → Int} {m : Int} {wi : Option (Nat → Int)} (b : BenchAt K C H x room ls y lo hi m wi) (e : ExtN H H') : BenchAt K C H' x room ls y lo hi m wi := by
  obtain ⟨dx, v1, v2, v3, v4, v6, h, h1, h2, h3, h4, h6⟩ := b
  have t := ext_off x e
  exact ⟨dx, v1, v2, v3, v4, v6, e _ _ h (fun ps z => by cases z), dp_ext t h1, dp_ext t h2, dp_ext t h3, dp_ext t h4, dp_ext t h6⟩
theorem BenchAt.at_ {C : Addr} {H : Hp} {x : Addr} {room : Int} {ls : List Int} {y lo hi : Nat → Int} {m : Int} {wi : Option (Nat → Int)} (b : BenchAt K C H x room ls y lo hi m wi) : ∃ dx fs, H x = some (.ins C dx fs) := by
  obtain ⟨dx, v1, v2, v3, v4, v6, h, _⟩ := b
  exact ⟨dx, _, h⟩
/-- the bench at x2 stays where only the cell k, an instance's, and tables change -/
theorem BenchAt.beside {C : Addr} {H H' : Hp} {x k : Addr} {room : Int} {ls : List Int} {y lo hi : Nat → Int} {m : Int} {wi : Option (Nat → Int)} {C' dk : Addr} {fk : List (Str × V)} (b : BenchAt K C H x room ls y lo hi m wi) (hk : H k = some (.ins C' dk fk)) (n : x ≠ k) (e : ExtN (Off k H) (Off k H')) : BenchAt K C H' x room ls y lo hi m wi := by
  obtain ⟨dx, v1, v2, v3, v4, v6, h, h1, h2, h3, h4, h6⟩ := b
  have t : ExtN (Off k (Off x H)) (Off k (Off x H')) := by
    rw [off_off k x H, off_off k x H']
    exact ext_off x e
  have hk' : Off x H k = some (.ins C' dk fk) := off_at (Ne.symm n) hk
  have go : ∀ {d : PyData} {v : V}, Dp K (Off x H) v d → Dp K (Off x H') v d := fun {d v} hd => Dpm (off_same k _) (dp_ext t (dp_offI hk' d v hd))
  exact ⟨dx, v1, v2, v3, v4, v6, ext_in e n h (fun ps z => by cases z), go h1, go h2, go h3, go h4, go h6⟩
end PS

namespace PS
open PySem PySem.Spec PyProof.Rows L2 LamX HT L2H
variable {P : Program} {w : World} {K : PySem.W.Frag} {mg : Str → Option Value} {base : Heap}
/-! ### the defs that make lambdas -/
structure Lx (base : Heap) (T : Tx K mg) where
  {c1 P1 c2 P2 : Addr}
  k1 : CodeAt K T.f_law_do c1
  k2 : CodeAt K T.f_law_right c2
  t1 : TabB base mg c1 P1
  t2 : TabB base mg c2 P2
  ne : P1 ≠ P2
abbrev qDo : Str := ("_law_do" : Str) ++ ".<locals>." ++ "<lambda>"
abbrev qRight : Str := ("_law_right" : Str) ++ ".<locals>." ++ "<lambda>"
def Lx.tabs {T : Tx K mg} (L : Lx base T) : List (Addr × Str) := [(L.P1, qDo), (L.P2, qRight)]
theorem Lx.m1 {T : Tx K mg} (L : Lx base T) : (L.P1, qDo) ∈ L.tabs := by
  unfold Lx.tabs
  exact List.mem_cons_self
theorem Lx.m2 {T : Tx K mg} (L : Lx base T) : (L.P2, qRight) ∈ L.tabs := by
  unfold Lx.tabs
  exact List.mem_cons_of_mem _ List.mem_cons_self
theorem Lx.u1 {T : Tx K mg} (L : Lx base T) : ∀ p ∈ L.tabs, p.1 = L.P1 → p.2 = qDo := by
  unfold Lx.tabs
  intro p hp e
  rcases List.mem_cons.mp hp with rfl | hp
  · rfl
  · rcases List.mem_cons.mp hp with rfl | hp
    · exact absurd e (Ne.symm L.ne)
    · cases hp
theorem Lx.u2 {T : Tx K mg} (L : Lx base T) : ∀ p ∈ L.tabs, p.1 = L.P2 → p.2 = qRight := by
  unfold Lx.tabs
  intro p hp e
  rcases List.mem_cons.mp hp with rfl | hp
  · exact absurd e L.ne
  · rcases List.mem_cons.mp hp with rfl | hp
    · rfl
    · cases hp
/-! ### a deed -/
/-- what a deed of the kind k (a push, a wish) makes of a bench -/
def Deed (room : Int) (ls : List Int) (k : Bool) (d : PyData) (y lo hi : Nat → Int) (m : Int) (wi : Option (Nat → Int)) (y' lo' hi' : Nat → Int) (m' : Int) (wi' : Option (Nat → Int)) : Prop :=
  (k = true ∧ ∃ p, d = puD ls p ∧ PuOk ls.length (room - ls.sum) p ∧ y' = doP y p ∧ lo' = doP lo p ∧ hi' = doP hi p ∧ m' = m + 1 ∧ wi' = wi) ∨
  (k = false ∧ ∃ t, d = tI (stL ls t) ∧ Rise ls.length (room - ls.sum) t ∧ y' = y ∧ lo' = lo ∧ hi' = hi ∧ m' = m ∧ wi' = some t)
def isGood (room : Int) (ls : List Int) (k : Bool) (d : PyData) : Bool := if k = true then isPush room ls d else isStand room ls d
def kindS (k : Bool) : Str := if k = true then "push" else "wish"
def badS (k : Bool) : Str := if k = true then "NoPush+" else "NoStand+"
def deD (k : Bool) (d : PyData) : PyData := .tuple [.str (kindS k), d]
theorem dp_deed {H : Hp} {u : V} {k : Bool} {d : PyData} (h : Dp K H u (deD k d)) : ∃ a v, u = .ref a ∧ SqT K H a [.str (kindS k), v] ∧ Dp K H v d := by
  obtain ⟨a, x, y, rfl, s, h1, h2⟩ := dp_two h
  cases dp_str h1
  exact ⟨a, y, rfl, s, h2⟩
theorem sqT_ext {H H' : Hp} {a : Addr} {xs : List V} (e : ExtN H H') (s : SqT K H a xs) : SqT K H' a xs := by
  rcases s with (z | ⟨o, z⟩) | z
  · exact .inl (.inl (e _ _ z fun ps z => by cases z))
  · exact .inl (.inr ⟨o, e _ _ z fun ps z => by cases z⟩)
  · exact .inr z
def sp_law_do (U : Ux K mg) {T : Tx K mg} (L : Lx base T) : Sp := fun vs H Q _ => ∃ (x : Addr) (u : V) (room : Int) (ls : List Int) (y lo hi : Nat → Int) (m : Int) (wi : Option (Nat → Int)) (k : Bool) (d : PyData), vs = [.ref x, u] ∧ BenchAt K T.C_Bench H x room ls y lo hi m wi ∧ ShOk room ls ∧
  Rise ls.length (room - ls.sum) y ∧ Rise ls.length (room - ls.sum) lo ∧ Rise ls.length (room - ls.sum) hi ∧ Dp K H u (deD k d) ∧ d.depth ≤ 64 ∧ Tabs L.tabs H ∧
  (∀ H' y' lo' hi' m' wi', ExtN (Off x H) (Off x H') → Tabs L.tabs H' → Deed room ls k d y lo hi m wi y' lo' hi' m' wi' → BenchAt K T.C_Bench H' x room ls y' lo' hi' m' wi' → Q (.str "") H') ∧
  (isGood room ls k d = false → ∀ H', ExtN (Off x H) (Off x H') → Tabs L.tabs H' → BenchAt K T.C_Bench H' x room ls y lo hi m wi → Q (.str (badS k)) H')
theorem ok_law_do (T : Tx K mg) (U : Ux K mg) (L : Lx base T) : FnOk P w K mg base CX0 12 T.f_law_do T.fd_law_do ["bench", "deed"] (sp_law_do U L) := by
  have GX_Bench_push := okx_Bench_push (P := P) (w := w) (base := base) T U
  have GX_Bench_set_wish := okx_Bench_set_wish (P := P) (w := w) (base := base) T U
  obtain ⟨oc, od, kV, doc, pm, an, cdv, ct, osl, hfd, lk, hcg⟩ := T.F_law_try.ex
  have hbd := T.b_law_try
  rw [hfd] at lk hbd
  have LT := L.t1
  have mT := L.m1
  have uT := L.u1
  refine funL T.F_law_do L.k1 sc_law_do (fun vs H Q E h => ?_) (fun A outer s H vs Q E hr h => ?_)
  · obtain ⟨_, _, _, _, _, _, _, _, _, _, _, rfl, _⟩ := h
    rfl
  · obtain ⟨x, u, room, ls, y, lo, hi, m, wi, k, d, rfl, hb, sh, ry, rl, rh, hu, dd, hT, q, qx⟩ := h
    have GT := gets_law_try (X := (cxOf CX0 P w K mg base ["bench", "deed", "told"] "_law_do" (defScope s_law_do) T.f_law_do (.ref L.c1) A outer s H E).nox) (cdg := cdv) (q := qDo) rfl rfl T U (roomH_of (hr.mono (j := 3) (by decide)))
    refine ⟨_, (pss_cons (ps_if (pt_cmpR op_eq (pe_ix ix_tup (pv 1) pe_int (fun _ _ => rfl)) pe_str (nomark _)) (pss_one (ps_set (i := 2) sc_law_do.nd rfl (.inl rfl) (pe_lamN (T := Lx.tabs L) (TT := TTr U) (by rfl) T.g_law_try T.F_law_try.kp lk hcg hbd sc_law_try rfl (.inl rfl) GT LT rfl mT uT hr (lamS_by (sc := defScope s_law_do) (by decide +kernel)) rfl (fun _ _ _ _ _ => rfl) (fun _ _ _ _ _ _ _ hr => (pe_meth (pv 0) T.cl_Bench T.me_Bench_push (GX_Bench_push.mono (by first | decide | omega)) hr T.b_Bench_push .nil passL (pa_cons (pe_ix (show IxR _ (rIxT K) from ix_tup) (pv 1) pe_int (fun _ _ => rfl)) pa_nil)))))) (pss_one (ps_set (i := 2) sc_law_do.nd rfl (.inl rfl) (pe_lamN (T := Lx.tabs L) (TT := TTr U) (by rfl) T.g_law_try T.F_law_try.kp lk hcg hbd sc_law_try rfl (.inl rfl) GT LT rfl mT uT hr (lamS_by (sc := defScope s_law_do) (by decide +kernel)) rfl (fun _ _ _ _ _ => rfl) (fun _ _ _ _ _ _ _ hr => (pe_meth (pv 0) T.cl_Bench T.me_Bench_set_wish (GX_Bench_set_wish.mono (by first | decide | omega)) hr T.b_Bench_set_wish .nil passL (pa_cons (pe_ix (show IxR _ (rIxT K) from ix_tup) (pv 1) pe_int (fun _ _ => rfl)) pa_nil)))))))
      (pss_one (ps_ret (pe_ifExp (pt_cmpR (op_eqP hr.units) (pv 2) (pe_tup (pa_cons pe_str (pa_cons pe_non pa_nil))) (nomark _)) pe_str (pv 2))))), ?_⟩
    obtain ⟨a, v, rfl, sa, hv⟩ := dp_deed hu
    have hb0 := hb
    obtain ⟨dx, w1, w2, w3, w4, w6, hx, _⟩ := hb0
    refine ⟨_, rfl, a, _, 0, _, rfl, rfl, sa, atI_nat (j := 0) rfl, rfl, _, rfl, ?_⟩
    cases k with
    | true =>
      rw [show decide (V.str (kindS true) = V.str "push") = true from by decide +kernel]
      refine iteT ⟨hT, fun H1 e1 T1 => ?_⟩
      have b1 := hb.ext e1
      have x1 := e1 _ _ hx (fun ps z => by cases z)
      have v1 := dp_ext e1 hv
      have o1 := ext_off x e1
      have sa1 := sqT_ext e1 sa
      refine ⟨_, rfl, x, dx, _, rfl, x1, rfl, _, rfl, a, _, 1, _, rfl, rfl, sa1, atI_nat (j := 1) rfl, x, v, room, ls, y, lo, hi, m, wi, d, rfl, b1, sh, v1, dd, ry, rl, rh, fun p ep pk H2 s2 b2 t nt => ?_, fun eb H2 s2 => ⟨_, _, .inr (.inl ⟨rfl, rfl⟩), rfl, rfl, fun H3 s3 => ?_⟩⟩
      · refine ⟨_, rfl, by show 2 ≤ sizeLine; decide, fun t2 nt2 => ⟨.tuple [.str "told", .none], .tuple [.str "told", .none], .tup (.inl (.inl (same_new nt2 _ _ upd_same))) (.cons (.str _) (.cons .non .nil)), .tup (.inl (.inl upd_same)) (.cons (.str _) (.cons .non .nil)), by decide +kernel, _, rfl, ?_⟩⟩
        rw [show PyData.eqv (.tuple [.str "told", .none]) (.tuple [.str "told", .none]) = true from by decide +kernel]
        have s3 : Same H2 (upd (upd H2 t (.tup [.str "told", .non])) t2 (.tup [.str "told", .non])) := (same_new nt).trans (same_new nt2)
        refine iteT (q _ _ _ _ _ _ (o1.trans ((ExtN.of s2).trans (ExtN.of (off_mono s3)))) ((tabs_off x1 (fun ps z => by cases z) (fun φ z => by cases z) s2 T1).ext s3) ?_ (b2.same s3))
        exact Or.inl ⟨rfl, p, ep, pk, rfl, rfl, rfl, rfl, rfl⟩
      · refine ⟨_, rfl, by show 2 ≤ sizeLine; decide, fun t2 nt2 => ⟨.str _, .tuple [.str "told", .none], .str _, .tup (.inl (.inl upd_same)) (.cons (.str _) (.cons .non .nil)), by decide +kernel, _, rfl, ?_⟩⟩
        have s4 : Same H1 (upd H3 t2 (.tup [.str "told", .non])) := (s2.trans s3).trans (same_new nt2)
        rw [show PyData.eqv (.str "NoPush+") (.tuple [.str "told", .none]) = false from by decide +kernel]
        exact iteF ⟨_, rfl, qx eb _ (o1.trans (ExtN.of (off_mono s4))) (T1.ext s4) (b1.same s4)⟩
    | false =>
      rw [show decide (V.str (kindS false) = V.str "push") = false from by decide +kernel]
      refine iteF ⟨hT, fun H1 e1 T1 => ?_⟩
      have b1 := hb.ext e1
      have x1 := e1 _ _ hx (fun ps z => by cases z)
      have v1 := dp_ext e1 hv
      have o1 := ext_off x e1
      have sa1 := sqT_ext e1 sa
      refine ⟨_, rfl, x, dx, _, rfl, x1, rfl, _, rfl, a, _, 1, _, rfl, rfl, sa1, atI_nat (j := 1) rfl, x, v, room, ls, y, lo, hi, m, wi, d, rfl, b1, sh, v1, fun tt et rt H2 s2 b2 t nt => ?_, fun eb H2 s2 => ⟨_, _, .inl ⟨rfl, rfl⟩, rfl, rfl, fun H3 s3 => ?_⟩⟩
      · refine ⟨_, rfl, by show 2 ≤ sizeLine; decide, fun t2 nt2 => ⟨.tuple [.str "told", .none], .tuple [.str "told", .none], .tup (.inl (.inl (same_new nt2 _ _ upd_same))) (.cons (.str _) (.cons .non .nil)), .tup (.inl (.inl upd_same)) (.cons (.str _) (.cons .non .nil)), by decide +kernel, _, rfl, ?_⟩⟩
        rw [show PyData.eqv (.tuple [.str "told", .none]) (.tuple [.str "told", .none]) = true from by decide +kernel]
        have s3 : Same H2 (upd (upd H2 t (.tup [.str "told", .non])) t2 (.tup [.str "told", .non])) := (same_new nt).trans (same_new nt2)
        refine iteT (q _ _ _ _ _ _ (o1.trans ((ExtN.of s2).trans (ExtN.of (off_mono s3)))) ((tabs_off x1 (fun ps z => by cases z) (fun φ z => by cases z) s2 T1).ext s3) ?_ (b2.same s3))
        exact Or.inr ⟨rfl, tt, et, rt, rfl, rfl, rfl, rfl, rfl⟩
      · refine ⟨_, rfl, by show 2 ≤ sizeLine; decide, fun t2 nt2 => ⟨.str _, .tuple [.str "told", .none], .str _, .tup (.inl (.inl upd_same)) (.cons (.str _) (.cons .non .nil)), by decide +kernel, _, rfl, ?_⟩⟩
        have s4 : Same H1 (upd H3 t2 (.tup [.str "told", .non])) := (s2.trans s3).trans (same_new nt2)
        rw [show PyData.eqv (.str "NoStand+") (.tuple [.str "told", .none]) = false from by decide +kernel]
        exact iteF ⟨_, rfl, qx eb _ (o1.trans (ExtN.of (off_mono s4))) (T1.ext s4) (b1.same s4)⟩
end PS

namespace PS
open PySem PySem.Spec PyProof.Rows L2 LamX HT L2H
variable {P : Program} {w : World} {K : PySem.W.Frag} {mg : Str → Option Value} {base : Heap}
/-! ### what a bench tells is right -/
def steD (ls : List Int) (y lo hi : Nat → Int) (m : Int) (wi : Option (Nat → Int)) : PyData := .tuple [tI (stL ls y), dgD ls lo hi, .int m, wiD ls wi]
theorem dp_state {H : Hp} {u : V} {ls : List Int} {y lo hi : Nat → Int} {m : Int} {wi : Option (Nat → Int)} (h : Dp K H u (steD ls y lo hi m wi)) :
    ∃ a v1 v2 v4, u = .ref a ∧ SqT K H a [v1, v2, .int m, v4] ∧ Dp K H v1 (tI (stL ls y)) ∧ Dp K H v2 (dgD ls lo hi) ∧ Dp K H v4 (wiD ls wi) := by
  obtain ⟨a, xs, rfl, s, al⟩ := dp_tup h
  cases al with
  | cons h1 al =>
    cases al with
    | cons h2 al =>
      cases al with
      | cons h3 al =>
        cases al with
        | cons h4 al =>
          cases al
          cases dp_int h3
          exact ⟨a, _, _, _, rfl, s, h1, h2, h4⟩
theorem depth_dgD (ls : List Int) (lo hi : Nat → Int) : (dgD ls lo hi).depth ≤ 2 := by
  have h1 := depth_tI (stL ls lo)
  have h2 := depth_tI (stL ls hi)
  simp only [dgD, PyData.depth, PyData.depthAll] at h1 h2 ⊢
  omega
def sp_law_right {T : Tx K mg} (L : Lx base T) : Sp := fun vs H Q _ => ∃ (x : Addr) (v u : V) (room : Int) (ls : List Int) (y lo hi : Nat → Int) (m : Int) (wi : Option (Nat → Int)), vs = [.ref x, v, u] ∧ BenchAt K T.C_Bench H x room ls y lo hi m wi ∧ Dp K H v (shD room ls) ∧ ShOk room ls ∧
  Dp K H u (steD ls y lo hi m wi) ∧ Rise ls.length (room - ls.sum) y ∧ (∀ t, wi = some t → Rise ls.length (room - ls.sum) t) ∧ Tabs L.tabs H ∧ ∀ H', ExtN H H' → Tabs L.tabs H' → Q (.bl true) H'
theorem ok_law_right (T : Tx K mg) (U : Ux K mg) (L : Lx base T) : FnOk P w K mg base CX0 12 T.f_law_right T.fd_law_right ["bench", "shelf", "state"] (sp_law_right L) := by
  have GX_Bench_fewest := okx_Bench_fewest (P := P) (w := w) (base := base) T U
  have G_Bench_stand := ok_Bench_stand (P := P) (w := w) (base := base) T
  have G_Bench_doing := ok_Bench_doing (P := P) (w := w) (base := base) T
  have G_Bench_pushes := ok_Bench_pushes (P := P) (w := w) (base := base) T
  have G_Bench_len := ok_Bench_len (P := P) (w := w) (base := base) T
  have G_law_same := ok_law_same (P := P) (w := w) (base := base) T 4
  have G_law_bands := ok_law_bands (P := P) (w := w) (base := base) T
  have G_law_fewest := ok_law_fewest (P := P) (w := w) (base := base) T 9
  obtain ⟨oc, od, kV, doc, pm, an, cdv, ct, osl, hfd, lk, hcg⟩ := T.F_law_try.ex
  have hbd := T.b_law_try
  rw [hfd] at lk hbd
  have LT := L.t2
  have mT := L.m2
  have uT := L.u2
  refine funL T.F_law_right L.k2 sc_law_right (fun vs H Q E h => ?_) (fun A outer s H vs Q E hr h => ?_)
  · obtain ⟨_, _, _, _, _, _, _, _, _, _, rfl, _⟩ := h
    rfl
  · obtain ⟨x, v, u, room, ls, y, lo, hi, m, wi, rfl, hb, hv, sh, hu, ry, rw_, hT, q⟩ := h
    have GT := gets_law_try (X := (cxOf CX0 P w K mg base ["bench", "shelf", "state", "stand", "doing", "many", "wish", "due", "told"] "_law_right" (defScope s_law_right) T.f_law_right (.ref L.c2) A outer s H E).nox) (cdg := cdv) (q := qRight) rfl rfl T U (roomH_of (hr.mono (j := 3) (by decide)))
    refine ⟨_, (pss_cons (ps_asg (pv 2) (pg_tup rfl (pgs_cons (pg_name (i := 3) sc_law_right.nd rfl (.inl rfl)) (pgs_cons (pg_name (i := 4) sc_law_right.nd rfl (.inl rfl)) (pgs_cons (pg_name (i := 5) sc_law_right.nd rfl (.inl rfl)) (pgs_cons (pg_name (i := 6) sc_law_right.nd rfl (.inl rfl)) pgs_nil))))))
      (pss_cons (ps_set (i := 7) sc_law_right.nd rfl (.inl rfl) (pe_lst (pa_cons (pv 3) (pa_cons (pv 4) (pa_cons (pv 5) (pa_cons (pe_callB call_len_seq (by rfl) T.n_len (by decide +kernel) (pa_cons (pv 3) pa_nil)) pa_nil))))))
      (pss_cons (ps_if (pt_not (pt_val (pe_call (G_law_same.mono (by first | decide | omega)) hr (by rfl) T.g_law_same T.F_law_same.kp T.b_law_same .nil pass0 (pa_cons (pe_lst (pa_cons (pe_meth0 (pv 0) T.cl_Bench T.me_Bench_stand (G_Bench_stand.mono (by first | decide | omega)) hr T.b_Bench_stand .nil pass0) (pa_cons (pe_meth0 (pv 0) T.cl_Bench T.me_Bench_doing (G_Bench_doing.mono (by first | decide | omega)) hr T.b_Bench_doing .nil pass0) (pa_cons (pe_meth0 (pv 0) T.cl_Bench T.me_Bench_pushes (G_Bench_pushes.mono (by first | decide | omega)) hr T.b_Bench_pushes .nil pass0) (pa_cons (pe_callB (call_lenOwn G_Bench_len T.me_Bench_len T.b_Bench_len (hr.mono (by decide))) (by rfl) T.n_len (by decide +kernel) (pa_cons (pv 0) pa_nil)) pa_nil))))) (pa_cons (pv 7) pa_nil))))) (pss_one (ps_ret pe_bl)) pss_nil)
      (pss_cons (ps_set (i := 8) sc_law_right.nd rfl (.inl rfl) (pe_lamN (T := Lx.tabs L) (TT := TTr U) (by rfl) T.g_law_try T.F_law_try.kp lk hcg hbd sc_law_try rfl (.inl rfl) GT LT rfl mT uT hr (lamS_by (sc := defScope s_law_right) (by decide +kernel)) rfl (fun _ _ _ _ _ => rfl) (fun _ _ _ _ _ _ _ hr => (pe_meth0 (pv 0) T.cl_Bench T.me_Bench_fewest (GX_Bench_fewest.mono (by first | decide | omega)) hr T.b_Bench_fewest .nil passL))))
      (pss_cons (ps_if (pt_cmpR op_isN (pv 6) pe_non (nomark _)) (pss_one (ps_ret (pe_cmpR op_eq (pv 8) pe_str (nomark _)))) pss_nil)
      (pss_one (ps_ret (pe_cmpR (op_eqP hr.units) (pv 8) (pe_tup (pa_cons pe_str (pa_cons (pe_call (G_law_fewest.mono (by first | decide | omega)) hr (by rfl) T.g_law_fewest T.F_law_fewest.kp T.b_law_fewest .nil pass0 (pa_cons (pe_call (G_law_bands.mono (by first | decide | omega)) hr (by rfl) T.g_law_bands T.F_law_bands.kp T.b_law_bands .nil pass0 (pa_cons (pv 1) (pa_cons (pv 3) (pa_cons (pv 6) pa_nil)))) pa_nil)) pa_nil))) (nomark _))))))))), ?_⟩
    obtain ⟨a, v1, v2, v4, rfl, sa, h1, h2, h4⟩ := dp_state hu
    obtain ⟨b1, rfl, s1⟩ := dp_tI h1
    have hb0 := hb
    obtain ⟨dx, w1, w2, w3, w4, w6, hx, _⟩ := hb0
    have n8 := sh.n8
    refine ⟨_, rfl, a, _, rfl, sa, rfl, _, _, rfl, _, _, rfl, _, _, rfl, _, [], rfl, rfl, ?_⟩
    refine ⟨_, rfl, _, rfl, _, rfl, _, rfl, b1, _, rfl, .inr s1, by show 4 ≤ sizeLine; decide, fun l1 nl1 => ?_⟩
    rw [iV_len, stL_len]
    have t1 := same_new (o := .lst [.ref b1, v2, .int m, .int ((ls.length : Nat) : Int)]) nl1
    have hl1 : upd H l1 (.lst [.ref b1, v2, .int m, .int ((ls.length : Nat) : Int)]) l1 = some (.lst [.ref b1, v2, .int m, .int ((ls.length : Nat) : Int)]) := upd_same
    generalize upd H l1 (.lst [.ref b1, v2, .int m, .int ((ls.length : Nat) : Int)]) = H1 at *
    refine ⟨_, rfl, x, dx, _, rfl, t1 _ _ hx, rfl, x, room, ls, y, lo, hi, m, wi, rfl, hb.same t1, fun z1 H2 s2 hz1 => ?_⟩
    have t2 := t1.trans s2
    refine ⟨_, rfl, x, dx, _, rfl, t2 _ _ hx, rfl, x, room, ls, y, lo, hi, m, wi, rfl, hb.same t2, fun z2 H3 s3 hz2 => ?_⟩
    have t3 := t2.trans s3
    refine ⟨_, rfl, x, dx, _, rfl, t3 _ _ hx, rfl, x, room, ls, y, lo, hi, m, wi, rfl, hb.same t3, ?_⟩
    refine ⟨_, rfl, x, dx, _, rfl, t3 _ _ hx, x, room, ls, y, lo, hi, m, wi, rfl, hb.same t3, _, rfl, by omega, by omega, by show 4 ≤ sizeLine; decide, fun l2 nl2 => ?_⟩
    have s4 := same_new (o := .lst [z1, z2, .int m, .int ((ls.length : Nat) : Int)]) nl2
    have t4 := t3.trans s4
    have hl2 : upd H3 l2 (.lst [z1, z2, .int m, .int ((ls.length : Nat) : Int)]) l2 = some (.lst [z1, z2, .int m, .int ((ls.length : Nat) : Int)]) := upd_same
    have d1 : Dp K (upd H3 l2 (.lst [z1, z2, .int m, .int ((ls.length : Nat) : Int)])) (.ref l2) (.list [tI (stL ls y), dgD ls lo hi, .int m, .int ((ls.length : Nat) : Int)]) := .lst (.inl (.inl hl2)) (.cons (Dpm (s3.trans s4) hz1) (.cons (Dpm s4 hz2) (.cons (.int _) (.cons (.int _) .nil))))
    have d2 : Dp K (upd H3 l2 (.lst [z1, z2, .int m, .int ((ls.length : Nat) : Int)])) (.ref l1) (.list [tI (stL ls y), dgD ls lo hi, .int m, .int ((ls.length : Nat) : Int)]) := .lst (.inl (.inl ((s2.trans (s3.trans s4)) _ _ hl1))) (.cons (Dpm t4 h1) (.cons (Dpm t4 h2) (.cons (.int _) (.cons (.int _) .nil))))
    have dep : (PyData.list [tI (stL ls y), dgD ls lo hi, .int m, .int ((ls.length : Nat) : Int)]).depth < 4 := by
      have e1 := depth_tI (stL ls y)
      have e2 := depth_dgD ls lo hi
      simp only [PyData.depth, PyData.depthAll] at e1 e2 ⊢
      omega
    refine ⟨_, rfl, _, _, _, rfl, d1, d2, dep, fun H5 s5 => ⟨_, rfl, ?_⟩⟩
    have t5 := t4.trans s5
    refine iteF ⟨hT.ext t5, fun H6 e6 T6 => ?_⟩
    have e6 : ExtN H H6 := (ExtN.of t5).trans e6
    have b6 := hb.ext e6
    have x6 := e6 _ _ hx (fun ps z => by cases z)
    refine ⟨_, rfl, x, dx, _, rfl, x6, rfl, x, room, ls, y, lo, hi, m, wi, rfl, b6, sh, ry, fun t et => ⟨rw_ t et, fun H7 r s7 bst tt ntt => ?_⟩, fun en => ⟨_, _, .inr (.inr ⟨rfl, rfl⟩), rfl, rfl, fun H7 s7 => ?_⟩⟩
    · subst et
      obtain ⟨b4, rfl, s4'⟩ := dp_tI (show Dp K H v4 (tI (stL ls t)) from h4)
      refine ⟨_, rfl, rfl, _, rfl, iteF ?_⟩
      have s8 := same_new (o := .tup [.str "told", .int (r.length : Nat)]) ntt
      have htt : upd H7 tt (.tup [.str "told", .int (r.length : Nat)]) tt = some (.tup [.str "told", .int (r.length : Nat)]) := upd_same
      generalize upd H7 tt (.tup [.str "told", .int (r.length : Nat)]) = H8 at *
      have e8 : ExtN H H8 := e6.trans (ExtN.of (s7.trans s8))
      refine ⟨_, rfl, _, rfl, _, rfl, _, rfl, v, .ref b1, .ref b4, room, ls, y, t, rfl, dp_ext e8 hv, n8, dp_ext e8 h1, dp_ext e8 h4, fun bv H9 s9 hbv => ?_⟩
      have hlb := (lawB_len (y := y) (w := t) ls.length).1
      refine ⟨bv, lawB y t ls.length, rfl, hbv, by omega, by omega, fun H10 cc s10 lcc => ?_⟩
      obtain ⟨rs, runs, lst⟩ := bst.least
      have ecc : cc = r.length := by
        rw [lawB_runs ry.mono rs.length rs ls.length rfl (Nat.le_refl _) runs] at lcc
        exact lcc.uniq lst
      rw [ecc]
      refine ⟨by show 2 ≤ sizeLine; decide, fun t3 nt3 => ?_⟩
      have s11 := (s9.trans s10).trans (same_new (o := .tup [.str "told", .int (r.length : Nat)]) nt3)
      have g1 : Dp K (upd H10 t3 (.tup [.str "told", .int (r.length : Nat)])) (.ref tt) (.tuple [.str "told", .int (r.length : Nat)]) := .tup (.inl (.inl (s11 _ _ htt))) (.cons (.str _) (.cons (.int _) .nil))
      have g2 : Dp K (upd H10 t3 (.tup [.str "told", .int (r.length : Nat)])) (.ref t3) (.tuple [.str "told", .int (r.length : Nat)]) := .tup (.inl (.inl upd_same)) (.cons (.str _) (.cons (.int _) .nil))
      refine ⟨_, _, g1, g2, by simp [PyData.depth, PyData.depthAll], ?_⟩
      rw [eqv_self g1]
      have s12 := (s7.trans s8).trans s11
      exact q _ (e6.trans (ExtN.of s12)) (T6.ext s12)
    · subst en
      have e4 : v4 = .non := by
        cases (show Dp K H v4 .none from h4)
        rfl
      subst e4
      refine ⟨_, rfl, rfl, _, rfl, iteT ⟨_, rfl, rfl, ?_⟩⟩
      rw [decide_eq_true (show V.str "NoWish+" = V.str "NoWish+" from rfl)]
      exact q _ (e6.trans (ExtN.of s7)) (T6.ext s7)
end PS

namespace PS
open PySem PySem.Spec PyProof.Rows L2 LamX HT L2H
variable {P : Program} {w : World} {K : PySem.W.Frag} {mg : Str → Option Value} {base : Heap}
/-! ### what is due -/
def dueS (room : Int) (ls : List Int) (k : Bool) (d : PyData) : Str := if isGood room ls k d = true then "" else badS k
def sp_law_due (K : PySem.W.Frag) : Sp := fun vs H Q _ => ∃ (v u : V) (room : Int) (ls : List Int) (k : Bool) (d : PyData), vs = [v, u] ∧ Dp K H v (shD room ls) ∧ ShOk room ls ∧ Dp K H u (deD k d) ∧ ∀ H', Same H H' → Q (.str (dueS room ls k d)) H'
theorem ok_law_due (T : Tx K mg) : FnOk P w K mg base CX0 12 T.f_law_due T.fd_law_due ["shelf", "deed"] (sp_law_due K) := by
  have G_law_is_push := ok_law_is_push (P := P) (w := w) (base := base) T
  have G_law_is_stand := ok_law_is_stand (P := P) (w := w) (base := base) T
  refine T.F_law_due.ok sc_law_due (fun vs H Q E h => ?_) (fun cdv A outer s H vs Q E hr h => ?_)
  · obtain ⟨_, _, _, _, _, _, rfl, _⟩ := h
    rfl
  · obtain ⟨v, u, room, ls, k, d, rfl, hv, sh, hu, q⟩ := h
    refine ⟨_, (pss_cons (ps_if (pt_cmpR op_eq (pe_ix ix_tup (pv 1) pe_int (fun _ _ => rfl)) pe_str (nomark _)) (pss_one (ps_ret (pe_ifExp (pt_val (pe_call (G_law_is_push.mono (by first | decide | omega)) hr (by rfl) T.g_law_is_push T.F_law_is_push.kp T.b_law_is_push .nil pass0 (pa_cons (pv 0) (pa_cons (pe_ix ix_tup (pv 1) pe_int (fun _ _ => rfl)) pa_nil)))) pe_str pe_str))) pss_nil)
      (pss_one (ps_ret (pe_ifExp (pt_val (pe_call (G_law_is_stand.mono (by first | decide | omega)) hr (by rfl) T.g_law_is_stand T.F_law_is_stand.kp T.b_law_is_stand .nil pass0 (pa_cons (pv 0) (pa_cons (pe_ix ix_tup (pv 1) pe_int (fun _ _ => rfl)) pa_nil)))) pe_str pe_str)))), ?_⟩
    obtain ⟨a, z, rfl, sa, hz⟩ := dp_deed hu
    refine ⟨_, rfl, a, _, 0, _, rfl, rfl, sa, atI_nat (j := 0) rfl, rfl, _, rfl, ?_⟩
    cases k with
    | true =>
      rw [show decide (V.str (kindS true) = V.str "push") = true from by decide +kernel]
      refine iteT ⟨_, rfl, _, rfl, a, _, 1, _, rfl, rfl, sa, atI_nat (j := 1) rfl, _, _, room, ls, d, rfl, hv, hz, fun H1 s1 => ⟨_, rfl, ?_⟩⟩
      rw [show dueS room ls true d = (if isPush room ls d = true then ("" : Str) else badS true) from rfl] at q
      cases e : isPush room ls d with
      | true => rw [e] at q; exact iteT (q H1 s1)
      | false => rw [e] at q; exact iteF (q H1 s1)
    | false =>
      rw [show decide (V.str (kindS false) = V.str "push") = false from by decide +kernel]
      refine iteF ⟨_, rfl, _, rfl, a, _, 1, _, rfl, rfl, sa, atI_nat (j := 1) rfl, _, _, room, ls, d, rfl, hv, sh, hz, fun H1 s1 => ⟨_, rfl, ?_⟩⟩
      rw [show dueS room ls false d = (if isStand room ls d = true then ("" : Str) else badS false) from rfl] at q
      cases e : isStand room ls d with
      | true => rw [e] at q; exact iteT (q H1 s1)
      | false => rw [e] at q; exact iteF (q H1 s1)
/-! ### the state after a deed -/
def sp_law_after (K : PySem.W.Frag) : Sp := fun vs H Q _ => ∃ (v u z : V) (room : Int) (ls : List Int) (y lo hi : Nat → Int) (m : Int) (wi : Option (Nat → Int)) (k : Bool) (d : PyData) (y' lo' hi' : Nat → Int) (m' : Int) (wi' : Option (Nat → Int)), vs = [v, u, z] ∧ Dp K H v (shD room ls) ∧ ShOk room ls ∧
  Dp K H u (steD ls y lo hi m wi) ∧ Dp K H z (deD k d) ∧ Rise ls.length (room - ls.sum) y ∧ Rise ls.length (room - ls.sum) lo ∧ Rise ls.length (room - ls.sum) hi ∧ Deed room ls k d y lo hi m wi y' lo' hi' m' wi' ∧ RD K H Q (steD ls y' lo' hi' m' wi')
theorem ok_law_after (T : Tx K mg) : FnOk P w K mg base CX0 3 T.f_law_after T.fd_law_after ["shelf", "state", "deed"] (sp_law_after K) := by
  have G_law_pushed := ok_law_pushed (P := P) (w := w) (base := base) T
  refine T.F_law_after.ok sc_law_after (fun vs H Q E h => ?_) (fun cdv A outer s H vs Q E hr h => ?_)
  · obtain ⟨_, _, _, _, _, _, _, _, _, _, _, _, _, _, _, _, _, rfl, _⟩ := h
    rfl
  · obtain ⟨v, u, z, room, ls, y, lo, hi, m, wi, k, d, y', lo', hi', m', wi', rfl, hv, sh, hu, hz, ry, rl, rh, dd, q⟩ := h
    refine ⟨_, (pss_cons (ps_asg (pv 1) (pg_tup rfl (pgs_cons (pg_name (i := 3) sc_law_after.nd rfl (.inl rfl)) (pgs_cons (pg_name (i := 4) sc_law_after.nd rfl (.inl rfl)) (pgs_cons (pg_name (i := 5) sc_law_after.nd rfl (.inl rfl)) (pgs_cons (pg_name (i := 6) sc_law_after.nd rfl (.inl rfl)) pgs_nil))))))
      (pss_cons (ps_if (pt_cmpR op_eq (pe_ix ix_tup (pv 2) pe_int (fun _ _ => rfl)) pe_str (nomark _)) (pss_one (ps_ret (pe_tup (pa_cons (pv 3) (pa_cons (pv 4) (pa_cons (pv 5) (pa_cons (pe_ix ix_tup (pv 2) pe_int (fun _ _ => rfl)) pa_nil))))))) pss_nil)
      (pss_cons (ps_set (i := 4) sc_law_after.nd rfl (.inl rfl) (pe_callTy call_tuple_of (by rfl) T.n_tuple (by decide +kernel) (pa_cons (pe_lc (own := [("one", 7)]) (g := gName 7) (tt := tYes) rfl sc_law_after.nd (pi_tup (pv 4)) (blkOk_by (own := [("one", 7)]) (N := ["shelf", "state", "deed", "stand", "doing", "many", "wish", "one"]) (sc := defScope s_law_after) (by decide +kernel)) (fun _ _ _ _ _ => (pg_name (i := 7) sc_law_after.nd rfl (.inl rfl))) (fun _ _ _ _ _ => pts_nil) (fun _ _ _ _ _ => (pe_call (G_law_pushed.mono (by first | decide | omega)) hr (by rfl) T.g_law_pushed T.F_law_pushed.kp T.b_law_pushed .nil pass0 (pa_cons (pv 0) (pa_cons (pv 7) (pa_cons (pe_ix (show IxR _ (rIxT K) from ix_tup) (pv 2) pe_int (fun _ _ => rfl)) pa_nil)))))) pa_nil)))
      (pss_one (ps_ret (pe_tup (pa_cons (pe_call (G_law_pushed.mono (by first | decide | omega)) hr (by rfl) T.g_law_pushed T.F_law_pushed.kp T.b_law_pushed .nil pass0 (pa_cons (pv 0) (pa_cons (pv 3) (pa_cons (pe_ix ix_tup (pv 2) pe_int (fun _ _ => rfl)) pa_nil)))) (pa_cons (pv 4) (pa_cons (pe_op op_add (pv 5) pe_int) (pa_cons (pv 6) pa_nil)))))))))), ?_⟩
    obtain ⟨a, v1, v2, v4, rfl, sa, h1, h2, h4⟩ := dp_state hu
    obtain ⟨b, zz, rfl, sb, hzz⟩ := dp_deed hz
    have n8 := sh.n8
    refine ⟨_, rfl, a, _, rfl, sa, rfl, _, _, rfl, _, _, rfl, _, _, rfl, _, [], rfl, rfl, ?_⟩
    refine ⟨_, rfl, b, _, 0, _, rfl, rfl, sb, atI_nat (j := 0) rfl, rfl, _, rfl, ?_⟩
    rcases dd with ⟨rfl, p, rfl, pk, rfl, rfl, rfl, rfl, rfl⟩ | ⟨rfl, t, rfl, rt, rfl, rfl, rfl, rfl, rfl⟩
    · rw [show decide (V.str (kindS true) = V.str "wish") = false from by decide +kernel]
      obtain ⟨c, u1, u2, rfl, sc, g1, g2⟩ := dp_two h2
      refine iteF ⟨_, rfl, c, rfl, ⟨_, sc⟩, fun D nD => ?_⟩
      refine lc_tup (K := K) (a := c) (xs := [u1, u2]) (fun i H' => Same H H' ∧ ∃ ws, H' D = some (.lst ws) ∧ DpAll K (Off D H') ws ([tI (stL ls (doP lo p)), tI (stL ls (doP hi p))].take i)) ⟨same_new nD, [], upd_same, .nil⟩
        (fun i H' _ pp => seqT_mono pp.1 sc) (fun i x H' hx pp => ?_) (fun H' pp => ?_)
      · obtain ⟨s1, ws, hD, al⟩ := pp
        have wl := dpAll_len al
        obtain ⟨f, i2, rf, hf, et⟩ : ∃ f : Nat → Int, i < 2 ∧ Rise ls.length (room - ls.sum) f ∧ Dp K H x (tI (stL ls f)) ∧ [tI (stL ls (doP lo p)), tI (stL ls (doP hi p))].take (i + 1) = [tI (stL ls (doP lo p)), tI (stL ls (doP hi p))].take i ++ [tI (stL ls (doP f p))] := by
          match i, hx with
          | 0, hx => cases hx; exact ⟨lo, by decide, rl, g1, rfl⟩
          | 1, hx => cases hx; exact ⟨hi, by decide, rh, g2, rfl⟩
          | i + 2, hx => simp at hx
        refine ⟨rfl, _, rfl, _, rfl, _, rfl, b, _, 1, _, rfl, rfl, seqT_mono s1 sb, atI_nat (j := 1) rfl, _, _, _, room, ls, f, p, _, rfl, Dpm s1 hv, Dpm s1 hf, Dpm s1 hzz, rf, n8, pk, fun g H2 s2 hg => ⟨ws, s2 _ _ hD, ?_, fun bb o e => ?_, ws ++ [g], upd_same, ?_⟩⟩
        · rw [wl, List.length_take]
          exact Nat.lt_of_le_of_lt (Nat.min_le_left _ _) (Nat.lt_trans i2 (by decide))
        · rw [upd_ne (fun z => by rw [z, nD] at e; cases e)]
          exact (s1.trans s2) _ _ e
        · rw [et]
          have o2 : Same (Off D H') (Off D (upd H2 D (.lst (ws ++ [g])))) := (off_mono s2).trans (offI_upd2 D H2 _)
          exact dpAll_app (dpAll_mono o2 _ _ al) (.cons (Dpm (offI_upd2 D H2 _) (dp_off (s2 _ _ hD) _ _ (noL_tI _) hg)) .nil)
      · obtain ⟨s1, ws, hD, al⟩ := pp
        have al : DpAll K (Off D H') ws [tI (stL ls (doP lo p)), tI (stL ls (doP hi p))] := al
        refine ⟨D, ws, rfl, .inl ⟨.inl (.inl hD), fun c2 nc2 => ?_⟩⟩
        have s2 := same_new (o := .tup ws) nc2
        have hc2 : upd H' c2 (.tup ws) c2 = some (.tup ws) := upd_same
        have o2 : Same (Off D H') (upd H' c2 (.tup ws)) := (off_same D H').trans s2
        generalize upd H' c2 (.tup ws) = H2 at *
        have t2 := s1.trans s2
        refine ⟨_, rfl, _, rfl, _, rfl, b, _, 1, _, rfl, rfl, seqT_mono t2 sb, atI_nat (j := 1) rfl, _, _, _, room, ls, y, p, _, rfl, Dpm t2 hv, Dpm t2 h1, Dpm t2 hzz, ry, n8, pk, fun g H3 s3 hg => ?_⟩
        refine ⟨_, rfl, _, rfl, _, _, rfl, rfl, _, rfl, by show 4 ≤ sizeLine; decide, fun t4 nt => ?_⟩
        have s4 := same_new (o := .tup [g, .ref c2, .int (m + 1), v4]) nt
        have t4' := (t2.trans s3).trans s4
        exact q _ _ t4' (.tup (.inl (.inl upd_same)) (.cons (Dpm s4 hg) (.cons (.tup (.inl (.inl ((s3.trans s4) _ _ hc2))) (dpAll_mono (o2.trans (s3.trans s4)) _ _ al)) (.cons (.int _) (.cons (Dpm t4' h4) .nil)))))
    · rw [show decide (V.str (kindS false) = V.str "wish") = true from by decide +kernel]
      refine iteT ⟨_, rfl, _, rfl, _, rfl, _, rfl, b, _, 1, _, rfl, rfl, sb, atI_nat (j := 1) rfl, by show 4 ≤ sizeLine; decide, fun t4 nt => ?_⟩
      have s1 := same_new (o := .tup [v1, v2, .int m', zz]) nt
      exact q _ _ s1 (.tup (.inl (.inl upd_same)) (.cons (Dpm s1 h1) (.cons (Dpm s1 h2) (.cons (.int _) (.cons (Dpm s1 hzz) .nil)))))
/-! ### a deed is drawn -/
def Dx (K : PySem.W.Frag) (H : Hp) (x : V) : Prop := ∃ d : PyData, d.depth ≤ 60 ∧ Dp K H x d
theorem Dx.mono {H H' : Hp} {x : V} (h : Dx K H x) (s : Same H H') : Dx K H' x := by
  obtain ⟨d, h1, h2⟩ := h
  exact ⟨d, h1, Dpm s h2⟩
theorem dx_nil {H : Hp} : ∀ x ∈ ([] : List V), Dx K H x := fun x h => by cases h
theorem dx_cons {H : Hp} {a : V} {as : List V} (h : Dx K H a) (t : ∀ x ∈ as, Dx K H x) : ∀ x ∈ a :: as, Dx K H x := fun x hx => by
  rcases List.mem_cons.mp hx with rfl | hx
  · exact h
  · exact t x hx
theorem dx_app {H : Hp} {as bs : List V} (h : ∀ x ∈ as, Dx K H x) (t : ∀ x ∈ bs, Dx K H x) : ∀ x ∈ as ++ bs, Dx K H x := fun x hx => (List.mem_append.mp hx).elim (h x) (t x)
theorem depth_l (ns : List Int) : (PyData.list (iD ns)).depth ≤ 60 := by
  have : PyData.depthAll (iD ns) ≤ 0 := depthAll_le _ fun d hd => by
    obtain ⟨i, _, rfl⟩ := List.mem_map.mp hd
    simp [PyData.depth]
  simp only [PyData.depth]
  omega
theorem depth_t (ns : List Int) : (tI ns).depth ≤ 60 := Nat.le_trans (depth_tI ns) (by decide)
def sp_law_deed (K : PySem.W.Frag) : Sp := fun vs H Q _ => ∃ (k : Addr) (v u : V) (room : Int) (ls : List Int) (y lo hi : Nat → Int) (m : Int) (wi : Option (Nat → Int)) (n : Nat), vs = [.ref k, v, u] ∧ Dp K (Off k H) v (shD room ls) ∧ ShOk room ls ∧ Dp K (Off k H) u (steD ls y lo hi m wi) ∧
  Rise ls.length (room - ls.sum) y ∧ (∀ t, wi = some t → Rise ls.length (room - ls.sum) t) ∧ Dk k H (n + 30) ∧ ∀ z H' kk d, d.depth ≤ 60 → Dk k H' n → Same (Off k H) (Off k H') → Dp K (Off k H') z (deD kk d) → Q z H'
theorem ok_law_deed (T : Tx K mg) : FnOk P w K mg base CX0 12 T.f_law_deed T.fd_law_deed ["deck", "shelf", "state"] (sp_law_deed K) := by
  have G_law_pick := ok_law_pick (P := P) (w := w) (base := base) T
  have G_law_one := ok_law_one (P := P) (w := w) (base := base) T
  have G_law_stand := ok_law_stand (P := P) (w := w) (base := base) T
  have G_law_push := ok_law_push (P := P) (w := w) (base := base) T
  have G_law_odd := ok_law_odd (P := P) (w := w) (base := base) T
  have G_pushes_to := ok_pushes_to (P := P) (w := w) (base := base) T
  refine T.F_law_deed.ok sc_law_deed (fun vs H Q E h => ?_) (fun cdv A outer s H vs Q E hr h => ?_)
  · obtain ⟨_, _, _, _, _, _, _, _, _, _, _, rfl, _⟩ := h
    rfl
  · obtain ⟨k, v, u, room, ls, y, lo, hi, m, wi, n, rfl, hv, sh, hu, ry, rw_, dk, q⟩ := h
    refine ⟨_, (pss_cons (ps_if (pt_cmpR op_eq (pe_call (G_law_pick.mono (by first | decide | omega)) hr (by rfl) T.g_law_pick T.F_law_pick.kp T.b_law_pick .nil pass0 (pa_cons (pv 0) (pa_cons pe_int pa_nil))) pe_int (nomark _)) (pss_cons (ps_set (i := 3) sc_law_deed.nd rfl (.inl rfl) (pe_call (G_law_stand.mono (by first | decide | omega)) hr (by rfl) T.g_law_stand T.F_law_stand.kp T.b_law_stand .nil pass0 (pa_cons (pv 0) (pa_cons (pv 1) pa_nil))))
      (pss_one (ps_ret (pe_tup (pa_cons pe_str (pa_cons (pe_call (G_law_one.mono (by first | decide | omega)) hr (by rfl) T.g_law_one T.F_law_one.kp T.b_law_one .nil pass0 (pa_cons (pv 0) (pa_cons (pe_lst (pa_cons (pv 3) (pa_cons (pv 3) (pa_cons (pe_ix ix_tup (pv 2) pe_int (fun _ _ => rfl)) (pa_cons (pe_callTy call_list_of (by rfl) T.n_list (by decide +kernel) (pa_cons (pv 3) pa_nil)) (pa_cons (pe_slice sl_tupA (pv 3) (po_some pe_int) po_none) (pa_cons pe_non (pa_cons (pe_call (G_law_odd.mono (by first | decide | omega)) hr (by rfl) T.g_law_odd T.F_law_odd.kp T.b_law_odd .nil pass0 (pa_cons (pv 0) pa_nil)) pa_nil)))))))) pa_nil))) pa_nil)))))) pss_nil)
      (pss_cons (ps_set (i := 4) sc_law_deed.nd rfl (.inl rfl) (pe_call (G_law_push.mono (by first | decide | omega)) hr (by rfl) T.g_law_push T.F_law_push.kp T.b_law_push .nil pass0 (pa_cons (pv 0) (pa_cons (pv 1) pa_nil))))
      (C8.pss_cut (ps_if (PW.pt (pw_and (pt_cmpR op_notN (pe_ix ix_tup (pv 2) pe_int (fun _ _ => rfl)) pe_non (nomark _)) (pw_and1 (pt_cmpR op_eq (pe_call (G_law_pick.mono (by first | decide | omega)) hr (by rfl) T.g_law_pick T.F_law_pick.kp T.b_law_pick .nil pass0 (pa_cons (pv 0) (pa_cons pe_int pa_nil))) pe_int (nomark _))))) (pss_one (ps_set (i := 4) sc_law_deed.nd rfl (.inl rfl) (pe_ix ix_list (pe_op op_cat (pe_call (G_pushes_to.mono (by first | decide | omega)) hr (by rfl) T.g_pushes_to T.F_pushes_to.kp T.b_pushes_to .nil pass0 (pa_cons (pv 1) (pa_cons (pe_ix ix_tup (pv 2) pe_int (fun _ _ => rfl)) (pa_cons (pe_ix ix_tup (pv 2) pe_int (fun _ _ => rfl)) pa_nil)))) (pe_lst (pa_cons (pv 4) pa_nil))) pe_int (fun _ _ => rfl)))) pss_nil)
      (pss_one (ps_ret (pe_tup (pa_cons pe_str (pa_cons (pe_call (G_law_one.mono (by first | decide | omega)) hr (by rfl) T.g_law_one T.F_law_one.kp T.b_law_one .nil pass0 (pa_cons (pv 0) (pa_cons (pe_op op_cat (pe_op op_rep (pe_lst (pa_cons (pv 4) pa_nil)) pe_int) (pe_lst (pa_cons (pe_callTy call_list_of (by rfl) T.n_list (by decide +kernel) (pa_cons (pv 4) pa_nil)) (pa_cons (pe_slice sl_tupA (pv 4) po_none (po_some pe_int)) (pa_cons (pe_tup (pa_cons pe_str (pa_cons pe_int (pa_cons (pe_ix ix_tup (pv 4) pe_int (fun _ _ => rfl)) pa_nil)))) (pa_cons (pe_call (G_law_odd.mono (by first | decide | omega)) hr (by rfl) T.g_law_odd T.F_law_odd.kp T.b_law_odd .nil pass0 (pa_cons (pv 0) pa_nil)) pa_nil)))))) pa_nil))) pa_nil)))))))), ?_⟩
    have n8 := sh.n8
    refine ⟨_, rfl, k, 4, n + 29, rfl, by decide, by decide, dk, fun r1 H1 r10 r11 dk1 s1 => ⟨rfl, _, rfl, ite2 (fun _ => ?_) (fun _ => ?_)⟩⟩
    · -- a wish
      refine ⟨_, rfl, _, rfl, k, v, room, ls, n + 9, rfl, Dpm s1 hv, sh, dk1.le (by omega), fun wv H2 t ri dk2 s2 hw => ?_⟩
      have g2 := s1.trans s2
      obtain ⟨wa, rfl, sw⟩ := dp_tI hw
      have f2 := off_same k H2
      obtain ⟨a, v1, v2, v4, rfl, sa, h1, h2, h4⟩ := dp_state (Dpm g2 hu)
      have sa2 := seqT_mono f2 sa
      have sw2 := seqT_mono f2 sw
      refine ⟨_, rfl, _, rfl, _, rfl, _, rfl, a, _, 0, _, rfl, rfl, sa2, atI_nat (j := 0) rfl, ?_⟩
      refine ⟨_, rfl, wa, _, rfl, .inr sw2, fun l3 n3 => ?_⟩
      have k3 := dk2.ne n3
      have o3 := off_new (k := k) (o := .lst (iV (stL ls t))) n3
      have dk3 := dk2.same (same_new (o := .lst (iV (stL ls t))) n3)
      have x3 : Dx K (Off k (upd H2 l3 (.lst (iV (stL ls t))))) (.ref l3) := ⟨.list (iD (stL ls t)), depth_l _, .lst (.inl (.inl (off_up k3))) (ints_dpAll _)⟩
      have e3 := same_new (o := .lst (iV (stL ls t))) n3
      generalize upd H2 l3 (.lst (iV (stL ls t))) = H3 at *
      refine ⟨_, rfl, 1, rfl, ?_⟩
      unfold tNoPart
      refine slT_from (k := 1) (seqT_mono e3 sw2) fun p4 H4 s4 sp4 => ?_
      have dk4 := dk3.same s4
      have o4 := off_mono (k := k) s4
      rw [← List.map_drop] at sp4
      obtain ⟨lk4, hk4⟩ := dk4.lst
      have x4 : Dx K (Off k H4) (.ref p4) := ⟨_, depth_t _, dp_off hk4 _ _ (noL_tI _) (tI_dp sp4)⟩
      refine ⟨_, rfl, k, n + 8, rfl, dk4, fun z5 H5 d5 dd5 dk5 s5 hz5 => ?_⟩
      have e25 := o3.trans (o4.trans s5)
      have all : ∀ x ∈ [.ref wa, .ref wa, v1, .ref l3, .ref p4, .non, z5], Dx K (Off k H5) x :=
        dx_cons ⟨_, depth_t _, Dpm e25 hw⟩ (dx_cons ⟨_, depth_t _, Dpm e25 hw⟩ (dx_cons ⟨_, depth_t _, Dpm e25 h1⟩ (dx_cons (x3.mono (o4.trans s5)) (dx_cons (x4.mono s5) (dx_cons ⟨.none, by simp [PyData.depth], .non⟩ (dx_cons ⟨d5, by omega, hz5⟩ dx_nil))))))
      refine ⟨by show 7 ≤ sizeLine; decide, fun l6 n6 => ?_⟩
      have k6 := dk5.ne n6
      refine ⟨k, l6, _, n + 7, rfl, .inl (.inl (off_up k6)), by show 0 < 7; decide, by show 7 < 1000; decide, dk5.same (same_new n6), fun x H7 hx dk7 s7 => ?_⟩
      obtain ⟨d, hd, hx7⟩ := (all x hx).mono ((off_new n6).trans s7)
      refine ⟨by show 2 ≤ sizeLine; decide, fun t8 n8 => ?_⟩
      have k8 := dk7.ne n8
      refine q _ _ false d hd ((dk7.same (same_new n8)).le (by omega)) (((g2.trans e25).trans ((off_new n6).trans s7)).trans (off_new n8)) ?_
      exact .tup (.inl (.inl (off_up k8))) (.cons (.str _) (.cons (Dpm (off_new n8) hx7) .nil))
    · -- a push
      refine ⟨_, rfl, _, rfl, k, v, room, ls, n + 26, rfl, Dpm s1 hv, sh, dk1.le (by omega), fun pu H2 p pk dk2 s2 hp => ?_⟩
      have g2 := s1.trans s2
      obtain ⟨a, v1, v2, v4, rfl, sa, h1, h2, h4⟩ := dp_state (Dpm g2 hu)
      have hv2 := Dpm g2 hv
      refine ⟨fun σ H' => ∃ w p, σ = [some (.ref k), some v, some (.ref a), none, some w] ∧ Dk k H' (n + 20) ∧ Same (Off k H2) (Off k H') ∧ Dp K (Off k H') w (puD ls p), ?_, ?_⟩
      · have f2 := off_same k H2
        refine ⟨_, rfl, a, _, 3, _, rfl, rfl, seqT_mono f2 sa, atI_nat (j := 3) rfl, rfl, _, rfl, ?_⟩
        cases wi with
        | none =>
          have e4 : v4 = .non := by
            cases (show Dp K (Off k H2) v4 .none from h4)
            rfl
          subst e4
          exact iteF (iteF ⟨pu, p, rfl, dk2.le (by omega), Same.refl _, hp⟩)
        | some t =>
          obtain ⟨b4, rfl, s4'⟩ := dp_tI (show Dp K (Off k H2) v4 (tI (stL ls t)) from h4)
          refine iteT ⟨_, rfl, k, 2, n + 25, rfl, by decide, by decide, dk2, fun r3 H3 r30 r31 dk3 s3 => ⟨rfl, _, rfl, ite2 (fun _ => ?_) (fun _ => ⟨pu, p, rfl, dk3.le (by omega), s3, Dpm s3 hp⟩)⟩⟩
          have f3 := off_same k H3
          have sa3 := seqT_mono (s3.trans f3) sa
          refine ⟨_, rfl, _, rfl, a, _, 0, _, rfl, rfl, sa3, atI_nat (j := 0) rfl, _, rfl, a, _, 3, _, rfl, rfl, sa3, atI_nat (j := 3) rfl, v, v1, .ref b4, room, ls, y, t, rfl, Dpm (s3.trans f3) hv2, sh, Dpm (s3.trans f3) h1, Dpm (s3.trans f3) h4, ry, rw_ t rfl, fun c H4 r us s4 nc hc al bst => ?_⟩
          have dk4 := dk3.same s4
          have usl := dpAll_len al
          rw [List.length_map] at usl
          have bl := bst.len
          refine ⟨_, rfl, by show 1 ≤ sizeLine; decide, fun l5 n5 => ?_⟩
          have dk5 := dk4.same (same_new (o := .lst [pu]) n5)
          have hc5 := same_new (o := .lst [pu]) n5 _ _ hc
          refine ⟨c, l5, us, [pu], rfl, rfl, hc5, upd_same, ?_, fun l6 n6 => ?_⟩
          · exact Nat.le_of_lt (small1000 (by show us.length + 1 ≤ 1000; omega))
          have dk6 := dk5.same (same_new (o := .lst (us ++ [pu])) n6)
          obtain ⟨lk4, hk4⟩ := dk4.lst
          have al4 : DpAll K (Off k H4) us (r.map (puD ls)) := dpAll_off hk4 _ _ (noLs_all _ fun d hd => by
            obtain ⟨p, _, rfl⟩ := List.mem_map.mp hd
            exact noL_puD ls p) (dpAll_mono (off_same c H4) _ _ al)
          have o6 : Same (Off k H4) (Off k (upd (upd H4 l5 (.lst [pu])) l6 (.lst (us ++ [pu])))) := (off_new n5).trans (off_new n6)
          have o46 := s3.trans ((off_mono s4).trans o6)
          cases us with
          | nil =>
            refine ⟨l6, _, 0, pu, rfl, rfl, .inl (.inl upd_same), atI_nat (j := 0) rfl, ?_⟩
            exact ⟨pu, p, rfl, dk6.le (by omega), o46, Dpm o46 hp⟩
          | cons u0 us =>
            obtain ⟨d0, e0, hd0⟩ := dpAll_get (i := 0) al4 rfl
            rw [List.getElem?_map] at e0
            cases er : r[0]? with
            | none => rw [er] at e0; cases e0
            | some p0 =>
              rw [er] at e0
              obtain rfl := Option.some.inj e0
              refine ⟨l6, _, 0, u0, rfl, rfl, .inl (.inl upd_same), atI_nat (j := 0) rfl, ?_⟩
              exact ⟨u0, p0, rfl, dk6.le (by omega), o46, Dpm o6 hd0⟩
      · rintro σ H3 ⟨w, p, rfl, dk3, s3, hw⟩
        obtain ⟨pa, x1, x2, x3, rfl, sp, g1, g2', g3⟩ := dp_three hw
        have f3 := off_same k H3
        have sp3 := seqT_mono f3 sp
        refine ⟨_, rfl, _, rfl, by show 1 ≤ sizeLine; decide, fun l1 n1 => ?_⟩
        have c1 := off_new (k := k) (o := .lst [.ref pa]) n1
        have m1 := same_new (o := .lst [.ref pa]) n1
        have dk4 := dk3.same m1
        have hl1 : upd H3 l1 (.lst [.ref pa]) l1 = some (.lst [.ref pa]) := upd_same
        generalize upd H3 l1 (.lst [.ref pa]) = H4 at *
        refine ⟨l1, 6, _, rfl, rfl, hl1, by decide, by decide, by show 1 * 6 ≤ sizeLine; decide, fun l2 n2 => ?_⟩
        have e6 : (List.replicate (6 : Int).toNat [V.ref pa]).flatten = [.ref pa, .ref pa, .ref pa, .ref pa, .ref pa, .ref pa] := rfl
        rw [e6]
        have c2 := off_new (k := k) (o := .lst [.ref pa, .ref pa, .ref pa, .ref pa, .ref pa, .ref pa]) n2
        have m2 := same_new (o := .lst [.ref pa, .ref pa, .ref pa, .ref pa, .ref pa, .ref pa]) n2
        have dk5 := dk4.same m2
        have hl2 : upd H4 l2 (.lst [.ref pa, .ref pa, .ref pa, .ref pa, .ref pa, .ref pa]) l2 = some (.lst [.ref pa, .ref pa, .ref pa, .ref pa, .ref pa, .ref pa]) := upd_same
        generalize upd H4 l2 (.lst [.ref pa, .ref pa, .ref pa, .ref pa, .ref pa, .ref pa]) = H5 at *
        have d5 := c1.trans c2
        have sp5 := seqT_mono (m1.trans m2) sp3
        refine ⟨_, rfl, pa, _, rfl, .inr sp5, fun l3 n3 => ?_⟩
        have k3 := dk5.ne n3
        have c3 := off_new (k := k) (o := .lst [x1, x2, x3]) n3
        have m3 := same_new (o := .lst [x1, x2, x3]) n3
        have dk6 := dk5.same m3
        have y3 : Dx K (Off k (upd H5 l3 (.lst [x1, x2, x3]))) (.ref l3) := ⟨.list [_, _, _], by simp [PyData.depth, PyData.depthAll], .lst (.inl (.inl (off_up k3))) (.cons (Dpm (d5.trans c3) g1) (.cons (Dpm (d5.trans c3) g2') (.cons (Dpm (d5.trans c3) g3) .nil)))⟩
        have hl2 := m3 _ _ hl2
        generalize upd H5 l3 (.lst [x1, x2, x3]) = H6 at *
        have d6 := d5.trans c3
        have sp6 := seqT_mono m3 sp5
        refine ⟨_, rfl, 2, rfl, ?_⟩
        refine slT_to (k := 2) sp6 fun p7 H7 m7 sp7 => ?_
        have dk7 := dk6.same m7
        have c7 := off_mono (k := k) m7
        have d7 := d6.trans c7
        have sp7' := seqT_mono m7 sp6
        have hl2 := m7 _ _ hl2
        have y7 : Dx K (Off k H7) (.ref p7) := by
          obtain ⟨lk7, hk7⟩ := dk7.lst
          have b7 : DpAll K H7 [x1, x2] [_, _] := .cons (Dpm (d7.trans (off_same k H7)) g1) (.cons (Dpm (d7.trans (off_same k H7)) g2') .nil)
          exact ⟨.tuple [_, _], by simp [PyData.depth, PyData.depthAll], dp_off hk7 _ _ (by simp [noL, noLs]) (.tup sp7 b7)⟩
        refine ⟨_, rfl, pa, _, 2, _, rfl, rfl, sp7', atI_nat (j := 2) rfl, by show 3 ≤ sizeLine; decide, fun t8 n8' => ?_⟩
        have k8 := dk7.ne n8'
        have c8 := off_new (k := k) (o := .tup [.str "left", .int 0, x3]) n8'
        have m8 := same_new (o := .tup [.str "left", .int 0, x3]) n8'
        have dk8 := dk7.same m8
        have y8 : Dx K (Off k (upd H7 t8 (.tup [.str "left", .int 0, x3]))) (.ref t8) := ⟨.tuple [.str "left", .int 0, _], by simp [PyData.depth, PyData.depthAll], .tup (.inl (.inl (off_up k8))) (.cons (.str _) (.cons (.int _) (.cons (Dpm (d7.trans c8) g3) .nil)))⟩
        have hl2 := m8 _ _ hl2
        generalize upd H7 t8 (.tup [.str "left", .int 0, x3]) = H8 at *
        refine ⟨_, rfl, k, n + 19, rfl, dk8, fun z9 H9 d9 dd9 dk9 c9 hz9 => ?_⟩
        have kl2 : l2 ≠ k := fun z => by
          rw [z] at n2
          exact absurd rfl (dk4.ne n2)
        have hl2 := off_back c9 kl2 hl2
        refine ⟨by show 4 ≤ sizeLine; decide, fun l10 n10 => ?_⟩
        have hl2 := same_new (o := .lst [.ref l3, .ref p7, .ref t8, z9]) n10 _ _ hl2
        refine ⟨l2, l10, _, _, rfl, rfl, hl2, upd_same, by show 6 + 4 ≤ sizeLine; decide, fun l11 n11 => ?_⟩
        have dk10 := dk9.same (same_new (o := .lst [.ref l3, .ref p7, .ref t8, z9]) n10)
        have k11 := dk10.ne n11
        have hwp : Dx K (Off k H9) (.ref pa) := ⟨_, Nat.le_trans (puD_depth ls p) (by decide), Dpm (d7.trans (c8.trans c9)) hw⟩
        have all : ∀ x ∈ [.ref pa, .ref pa, .ref pa, .ref pa, .ref pa, .ref pa] ++ [.ref l3, .ref p7, .ref t8, z9], Dx K (Off k H9) x :=
          dx_app (dx_cons hwp (dx_cons hwp (dx_cons hwp (dx_cons hwp (dx_cons hwp (dx_cons hwp dx_nil)))))) (dx_cons (y3.mono (c7.trans (c8.trans c9))) (dx_cons (y7.mono (c8.trans c9)) (dx_cons (y8.mono c9) (dx_cons ⟨d9, by omega, hz9⟩ dx_nil))))
        refine ⟨k, l11, _, n + 18, rfl, .inl (.inl (off_up k11)), by show 0 < 10; decide, by show 10 < 1000; decide, dk10.same (same_new n11), fun x H12 hx dk12 s12 => ?_⟩
        have c12 := ((off_new n10).trans (off_new n11)).trans s12
        obtain ⟨d, hd, hx12⟩ := (all x hx).mono c12
        refine ⟨by show 2 ≤ sizeLine; decide, fun t13 n13 => ?_⟩
        have k13 := dk12.ne n13
        refine q _ _ true d hd ((dk12.same (same_new n13)).le (by omega)) ((((g2.trans s3).trans (d7.trans (c8.trans c9))).trans c12).trans (off_new n13)) ?_
        exact .tup (.inl (.inl (off_up k13))) (.cons (.str _) (.cons (Dpm (off_new n13) hx12) .nil))
end PS

namespace PS
open PySem PySem.Spec PyProof.Rows L2 LamX HT L2H
variable {P : Program} {w : World} {K : PySem.W.Frag} {mg : Str → Option Value} {base : Heap}
/-! ### what stays -/
theorem same_out {k : Addr} {H0 H1 H2 : Hp} (s : Same H0 H1) (nk : H0 k = none) (t : Same (Off k H1) (Off k H2)) : Same H0 H2 := fun b o h => off_back t (ne_of_none h nk) (s b o h)
theorem mvK {H H' : Hp} {k : Addr} {l : List V} {d : PyData} {v : V} (hk : H k = some (.lst l)) (s : Same (Off k H) (Off k H')) (nl : noL d = true) (h : Dp K H v d) : Dp K H' v d := Dpm (off_same k H') (Dpm s (dp_off hk d v nl h))
theorem mvX {H H' : Hp} {x C dx : Addr} {fs : List (Str × V)} {d : PyData} {v : V} (hx : H x = some (.ins C dx fs)) (e : ExtN (Off x H) (Off x H')) (h : Dp K H v d) : Dp K H' v d := Dpm (off_same x H') (dp_ext e (dp_offI hx d v h))
theorem noL_wiD (ls : List Int) (wi : Option (Nat → Int)) : noL (wiD ls wi) = true := by
  cases wi with
  | none => rfl
  | some t => exact noL_tI _
theorem noL_shD (room : Int) (ls : List Int) : noL (shD room ls) = true := by
  have := noL_tI ls
  simp only [shD, noL, noLs, Bool.and_true, Bool.true_and] at this ⊢
  exact this
theorem noL_steD (ls : List Int) (y lo hi : Nat → Int) (m : Int) (wi : Option (Nat → Int)) : noL (steD ls y lo hi m wi) = true := by
  have h1 := noL_tI (stL ls y)
  have h2 := noL_tI (stL ls lo)
  have h3 := noL_tI (stL ls hi)
  have h4 := noL_wiD ls wi
  show (noL (tI (stL ls y)) && ((noL (tI (stL ls lo)) && (noL (tI (stL ls hi)) && true)) && (true && (noL (wiD ls wi) && true)))) = true
  rw [h1, h2, h3, h4]
  rfl
theorem Dk.keep {k : Addr} {H H' : Hp} {n : Nat} (h : Dk k H n) (s : ∀ l, H k = some (.lst l) → H' k = some (.lst l)) : Dk k H' n := by
  obtain ⟨a, b, c, h1, h2⟩ := h
  exact ⟨a, b, c, s _ h1, h2⟩
theorem BenchAt.deck {C : Addr} {H H' : Hp} {x k : Addr} {l : List V} {room : Int} {ls : List Int} {y lo hi : Nat → Int} {m : Int} {wi : Option (Nat → Int)} (b : BenchAt K C H x room ls y lo hi m wi) (hk : H k = some (.lst l)) (s : Same (Off k H) (Off k H')) : BenchAt K C H' x room ls y lo hi m wi := by
  obtain ⟨dx, v1, v2, v3, v4, v6, h, h1, h2, h3, h4, h6⟩ := b
  have n : x ≠ k := ne_of h hk (by intro z; cases z)
  have hk' : Off x H k = some (.lst l) := off_at (Ne.symm n) hk
  have t : Same (Off k (Off x H)) (Off k (Off x H')) := by
    rw [off_off k x H, off_off k x H']
    exact off_mono s
  exact ⟨dx, v1, v2, v3, v4, v6, off_back s n h, mvK hk' t (noL_shD room ls) h1, mvK hk' t (noL_tI _) h2, mvK hk' t (noL_tI _) h3, mvK hk' t (noL_tI _) h4, mvK hk' t (noL_wiD ls wi) h6⟩
theorem BenchAt.wiE {C : Addr} {H : Hp} {x : Addr} {room : Int} {ls : List Int} {y lo hi : Nat → Int} {m : Int} {wi wi' : Option (Nat → Int)} (b : BenchAt K C H x room ls y lo hi m wi) (e : wiD ls wi = wiD ls wi') : BenchAt K C H x room ls y lo hi m wi' := by
  obtain ⟨dx, v1, v2, v3, v4, v6, h, h1, h2, h3, h4, h6⟩ := b
  exact ⟨dx, v1, v2, v3, v4, v6, h, h1, h2, h3, h4, e ▸ h6⟩
/-- the cells, the deck, the tables, the shelf, two benches -/
structure Inn (K : PySem.W.Frag) (C : Addr) (tb : List (Addr × Str)) (cells : List Int) (c k x x2 : Addr) (room : Int) (ls : List Int) (v : V) (n : Nat) (y lo hi : Nat → Int) (m : Int) (wi : Option (Nat → Int)) (y2 lo2 hi2 : Nat → Int) (m2 : Int) (wi2 : Option (Nat → Int)) (H : Hp) : Prop where
  hc : H c = some (.lst (iV cells))
  dk : Dk k H n
  tb : Tabs tb H
  hv : Dp K H v (shD room ls)
  b1 : BenchAt K C H x room ls y lo hi m wi
  b2 : BenchAt K C H x2 room ls y2 lo2 hi2 m2 wi2
  nck : c ≠ k
  nx : x ≠ x2
section
variable {C : Addr} {tb : List (Addr × Str)} {cells : List Int} {c k x x2 : Addr} {room : Int} {ls : List Int} {v : V} {n : Nat} {y lo hi : Nat → Int} {m : Int} {wi : Option (Nat → Int)} {y2 lo2 hi2 : Nat → Int} {m2 : Int} {wi2 : Option (Nat → Int)} {H H' : Hp}
theorem Inn.same (h : Inn K C tb cells c k x x2 room ls v n y lo hi m wi y2 lo2 hi2 m2 wi2 H) (s : Same H H') : Inn K C tb cells c k x x2 room ls v n y lo hi m wi y2 lo2 hi2 m2 wi2 H' :=
  ⟨s _ _ h.hc, h.dk.same s, h.tb.ext s, Dpm s h.hv, h.b1.same s, h.b2.same s, h.nck, h.nx⟩
theorem Inn.ext (h : Inn K C tb cells c k x x2 room ls v n y lo hi m wi y2 lo2 hi2 m2 wi2 H) (e : ExtN H H') (t : Tabs tb H') : Inn K C tb cells c k x x2 room ls v n y lo hi m wi y2 lo2 hi2 m2 wi2 H' :=
  ⟨e _ _ h.hc (fun ps z => by cases z), h.dk.keep (fun l z => e _ _ z fun ps z => by cases z), t, dp_ext e h.hv, h.b1.ext e, h.b2.ext e, h.nck, h.nx⟩
theorem Inn.deck {n' : Nat} (h : Inn K C tb cells c k x x2 room ls v n y lo hi m wi y2 lo2 hi2 m2 wi2 H) (s : Same (Off k H) (Off k H')) (dk : Dk k H' n') : Inn K C tb cells c k x x2 room ls v n' y lo hi m wi y2 lo2 hi2 m2 wi2 H' := by
  obtain ⟨l, hk⟩ := h.dk.lst
  exact ⟨off_back s h.nck h.hc, dk, tabs_off hk (fun ps z => by cases z) (fun φ z => by cases z) s h.tb, mvK hk s (noL_shD room ls) h.hv, h.b1.deck hk s, h.b2.deck hk s, h.nck, h.nx⟩
theorem Inn.one {y' lo' hi' : Nat → Int} {m' : Int} {wi' : Option (Nat → Int)} (h : Inn K C tb cells c k x x2 room ls v n y lo hi m wi y2 lo2 hi2 m2 wi2 H) (e : ExtN (Off x H) (Off x H')) (t : Tabs tb H') (b : BenchAt K C H' x room ls y' lo' hi' m' wi') : Inn K C tb cells c k x x2 room ls v n y' lo' hi' m' wi' y2 lo2 hi2 m2 wi2 H' := by
  obtain ⟨dx, fs, hx⟩ := h.b1.at_
  have nc : c ≠ x := ne_of h.hc hx (by intro z; cases z)
  refine ⟨ext_in e nc h.hc (fun ps z => by cases z), h.dk.keep fun l z => ext_in e (ne_of z hx (by intro z; cases z)) z (fun ps z => by cases z), t, mvX hx e h.hv, b, h.b2.beside hx (Ne.symm h.nx) e, h.nck, h.nx⟩
theorem Inn.two {y' lo' hi' : Nat → Int} {m' : Int} {wi' : Option (Nat → Int)} (h : Inn K C tb cells c k x x2 room ls v n y lo hi m wi y2 lo2 hi2 m2 wi2 H) (e : ExtN (Off x2 H) (Off x2 H')) (t : Tabs tb H') (b : BenchAt K C H' x2 room ls y' lo' hi' m' wi') : Inn K C tb cells c k x x2 room ls v n y lo hi m wi y' lo' hi' m' wi' H' := by
  obtain ⟨dx, fs, hx⟩ := h.b2.at_
  have nc : c ≠ x2 := ne_of h.hc hx (by intro z; cases z)
  refine ⟨ext_in e nc h.hc (fun ps z => by cases z), h.dk.keep fun l z => ext_in e (ne_of z hx (by intro z; cases z)) z (fun ps z => by cases z), t, mvX hx e h.hv, h.b1.beside hx h.nx e, b, h.nck, h.nx⟩
end
/-! ### deeds -/
theorem Deed.good {room : Int} {ls : List Int} {k : Bool} {d : PyData} {y lo hi : Nat → Int} {m : Int} {wi : Option (Nat → Int)} {y' lo' hi' : Nat → Int} {m' : Int} {wi' : Option (Nat → Int)} (sh : ShOk room ls) (h : Deed room ls k d y lo hi m wi y' lo' hi' m' wi') : isGood room ls k d = true := by
  rcases h with ⟨rfl, p, rfl, pk, _⟩ | ⟨rfl, t, rfl, rt, _⟩
  · exact isPush_ok pk
  · exact isStand_ok rt sh.lo
theorem Deed.rise {room : Int} {ls : List Int} {k : Bool} {d : PyData} {y lo hi : Nat → Int} {m : Int} {wi : Option (Nat → Int)} {y' lo' hi' : Nat → Int} {m' : Int} {wi' : Option (Nat → Int)} (h : Deed room ls k d y lo hi m wi y' lo' hi' m' wi') (r1 : Rise ls.length (room - ls.sum) y) (r2 : Rise ls.length (room - ls.sum) lo) (r3 : Rise ls.length (room - ls.sum) hi) (r4 : ∀ t, wi = some t → Rise ls.length (room - ls.sum) t) :
    Rise ls.length (room - ls.sum) y' ∧ Rise ls.length (room - ls.sum) lo' ∧ Rise ls.length (room - ls.sum) hi' ∧ ∀ t, wi' = some t → Rise ls.length (room - ls.sum) t := by
  rcases h with ⟨rfl, p, rfl, pk, rfl, rfl, rfl, rfl, rfl⟩ | ⟨rfl, t, rfl, rt, rfl, rfl, rfl, rfl, rfl⟩
  · exact ⟨doP_rise r1 pk, doP_rise r2 pk, doP_rise r3 pk, r4⟩
  · exact ⟨r1, r2, r3, fun t' e => by cases e; exact rt⟩
theorem puD_inj {ls : List Int} {p q : Push} (h : puD ls p = puD ls q) : p = q := by
  obtain ⟨r, g, b⟩ := p
  obtain ⟨r2, g2, b2⟩ := q
  unfold puD at h
  simp only [PyData.tuple.injEq, List.cons.injEq, PyData.str.injEq, PyData.int.injEq, and_true] at h
  obtain ⟨h1, h2, h3⟩ := h
  have eg : g = g2 := by omega
  subst eg
  have eb : b = b2 := by omega
  subst eb
  have er : r = r2 := by
    cases r <;> cases r2 <;> first | rfl | exact absurd h1 (by decide +kernel)
  rw [er]
theorem Deed.uniq {room : Int} {ls : List Int} {k : Bool} {d : PyData} {y lo hi : Nat → Int} {m : Int} {wi : Option (Nat → Int)} {y' lo' hi' : Nat → Int} {m' : Int} {wi' : Option (Nat → Int)} {y2 lo2 hi2 : Nat → Int} {m2 : Int} {wi2 : Option (Nat → Int)} (h : Deed room ls k d y lo hi m wi y' lo' hi' m' wi') (h2 : Deed room ls k d y lo hi m wi y2 lo2 hi2 m2 wi2) :
    y2 = y' ∧ lo2 = lo' ∧ hi2 = hi' ∧ m2 = m' ∧ wiD ls wi2 = wiD ls wi' := by
  rcases h with ⟨rfl, p, e, pk, rfl, rfl, rfl, rfl, rfl⟩ | ⟨rfl, t, e, rt, rfl, rfl, rfl, rfl, rfl⟩
  · rcases h2 with ⟨_, q, e2, _, rfl, rfl, rfl, rfl, rfl⟩ | ⟨z, _⟩
    · rw [puD_inj (e.symm.trans e2)]
      exact ⟨rfl, rfl, rfl, rfl, rfl⟩
    · cases z
  · rcases h2 with ⟨z, _⟩ | ⟨_, t2, e2, _, rfl, rfl, rfl, rfl, rfl⟩
    · cases z
    · exact ⟨rfl, rfl, rfl, rfl, e2.symm.trans e⟩
theorem benEq_eqv (ls : List Int) (y lo hi : Nat → Int) (m : Int) (wi : Option (Nat → Int)) (y2 lo2 hi2 : Nat → Int) (m2 : Int) (wi2 : Option (Nat → Int)) : benEq ls y lo hi m wi y2 lo2 hi2 m2 wi2 = PyData.eqv (steD ls y lo hi m wi) (steD ls y2 lo2 hi2 m2 wi2) := by
  have hm : PyData.eqv (.int m) (.int m2) = decide (m = m2) := by
    by_cases e : m = m2
    · subst e
      rw [decide_eq_true rfl]
      simp [PyData.eqv]
    · rw [decide_eq_false e]
      simp [PyData.eqv, e]
  unfold benEq
  rw [← hm]
  show _ = (PyData.eqv (tI (stL ls y)) (tI (stL ls y2)) && ((PyData.eqv (tI (stL ls lo)) (tI (stL ls lo2)) && (PyData.eqv (tI (stL ls hi)) (tI (stL ls hi2)) && true)) && (PyData.eqv (.int m) (.int m2) && (PyData.eqv (wiD ls wi) (wiD ls wi2) && true))))
  rw [Bool.and_true, Bool.and_true, Bool.and_assoc]
theorem steD_self (ls : List Int) (y lo hi : Nat → Int) (m : Int) (wi : Option (Nat → Int)) : (steD ls y lo hi m wi).depth ≤ 64 := by
  have e1 := depth_tI (stL ls y)
  have e2 := depth_dgD ls lo hi
  have e3 : (wiD ls wi).depth ≤ 1 := by
    cases wi with
    | none => show (0 : Nat) ≤ 1; decide
    | some t => exact depth_tI _
  simp only [steD, PyData.depth, PyData.depthAll] at e1 e2 e3 ⊢
  omega
def sp_law (K : PySem.W.Frag) (tb : List (Addr × Str)) : Sp := fun vs H Q _ => ∃ (a : Addr) (ns : List Int), vs = [.ref a] ∧ SqL K H a (ns.map V.int) ∧ ns.length ≤ 63 ∧ Tabs tb H ∧ ∀ H', Q (.bl true) H'
theorem ok_law {f : Addr} {fd : FuncData} (F : Fun K "law" "law" s_law f fd) (T : Tx K mg) (U : Ux K mg) (B : Bx K T.C_Bench) (L : Lx base T) : FnOk P w K mg base CX0 14 f fd ["script"] (sp_law K L.tabs) := by
  have G_law_deck := ok_law_deck (P := P) (w := w) (base := base) T
  have G_law_one := ok_law_one (P := P) (w := w) (base := base) T
  have G_law_shelf := ok_law_shelf (P := P) (w := w) (base := base) T
  have G_law_stand := ok_law_stand (P := P) (w := w) (base := base) T
  have G_law_ends := ok_law_ends (P := P) (w := w) (base := base) T
  have G_law_deed := ok_law_deed (P := P) (w := w) (base := base) T
  have G_law_due := ok_law_due (P := P) (w := w) (base := base) T
  have G_law_after := ok_law_after (P := P) (w := w) (base := base) T
  have G_law_do := ok_law_do (P := P) (w := w) T U L
  have G_law_right := ok_law_right (P := P) (w := w) T U L
  have G_Bench_init := ok_Bench_init (P := P) (w := w) (base := base) T
  have G_Bench_eq := ok_Bench_eq (P := P) (w := w) (base := base) T B
  refine F.ok sc_law (fun vs H Q E h => ?_) (fun cdv A outer s H vs Q E hr h => ?_)
  · obtain ⟨a, ns, rfl, _⟩ := h
    rfl
  · obtain ⟨a, ns, rfl, hS, hlen, hT, q⟩ := h
    refine ⟨_, (pss_cons (ps_for PassesOwn.never rfl (pi_list (pe_slice sl_list (pe_op op_catL (pe_lst (pa_cons pe_int pa_nil)) (pv 0)) po_none (po_some pe_int))) (pg_name (i := 1) sc_law.nd rfl (.inl rfl))
      (pss_cons (ps_set (i := 2) sc_law.nd rfl (.inl rfl) (pe_call (G_law_deck.mono (by first | decide | omega)) hr (by rfl) T.g_law_deck T.F_law_deck.kp T.b_law_deck .nil pass0 (pa_cons (pv 1) (pa_cons pe_int pa_nil))))
      (pss_cons (ps_set (i := 3) sc_law.nd rfl (.inl rfl) (pe_call (G_law_shelf.mono (by first | decide | omega)) hr (by rfl) T.g_law_shelf T.F_law_shelf.kp T.b_law_shelf .nil pass0 (pa_cons (pv 2) (pa_cons pe_int (pa_cons (pe_call (G_law_one.mono (by first | decide | omega)) hr (by rfl) T.g_law_one T.F_law_one.kp T.b_law_one .nil pass0 (pa_cons (pv 2) (pa_cons (pe_lst (pa_cons pe_int (pa_cons pe_int pa_nil))) pa_nil))) pa_nil)))))
      (pss_cons (ps_set (i := 4) sc_law.nd rfl (.inl rfl) (pe_tup (pa_cons (pe_call (G_law_stand.mono (by first | decide | omega)) hr (by rfl) T.g_law_stand T.F_law_stand.kp T.b_law_stand .nil pass0 (pa_cons (pv 2) (pa_cons (pv 3) pa_nil))) (pa_cons (pe_callTy call_tuple_of (by rfl) T.n_tuple (by decide +kernel) (pa_cons (pe_call (G_law_ends.mono (by first | decide | omega)) hr (by rfl) T.g_law_ends T.F_law_ends.kp T.b_law_ends .nil pass0 (pa_cons (pv 3) pa_nil)) pa_nil)) (pa_cons pe_int (pa_cons pe_non pa_nil))))))
      (pss_cons (ps_par (i := 5) (j := 6) (by rfl) sc_law.nd rfl rfl (by decide) rfl rfl (pa_cons (pe_make T.mk_Bench (G_Bench_init.mono (by first | decide | omega)) hr (by rfl) T.g_Bench T.b_Bench_init .nil pass0 (pa_cons (pv 3) (pa_cons (pe_ix ix_tup (pv 4) pe_int (fun _ _ => rfl)) pa_nil))) (pa_cons (pe_make T.mk_Bench (G_Bench_init.mono (by first | decide | omega)) hr (by rfl) T.g_Bench T.b_Bench_init .nil pass0 (pa_cons (pv 3) (pa_cons (pe_ix ix_tup (pv 4) pe_int (fun _ _ => rfl)) pa_nil))) pa_nil)) (by rfl))
      (pss_one (ps_for PassesOwn.never rfl (pi_range1 (by rfl) T.n_range (pa_cons pe_int pa_nil)) (pg_name (i := 7) sc_law.nd rfl (.inl rfl))
      (pss_cons (ps_set (i := 8) sc_law.nd rfl (.inl rfl) (pe_call (G_law_deed.mono (by first | decide | omega)) hr (by rfl) T.g_law_deed T.F_law_deed.kp T.b_law_deed .nil pass0 (pa_cons (pv 2) (pa_cons (pv 3) (pa_cons (pv 4) pa_nil)))))
      (pss_cons (ps_set (i := 9) sc_law.nd rfl (.inl rfl) (pe_call (G_law_due.mono (by first | decide | omega)) hr (by rfl) T.g_law_due T.F_law_due.kp T.b_law_due .nil pass0 (pa_cons (pv 3) (pa_cons (pv 8) pa_nil))))
      (C8.pss_cut (ps_if (pt_cmpR op_ne (pe_call (G_law_do.mono (by first | decide | omega)) hr (by rfl) T.g_law_do T.F_law_do.kp T.b_law_do .nil pass0 (pa_cons (pv 5) (pa_cons (pv 8) pa_nil))) (pv 9) (nomark _)) (pss_one (ps_ret pe_bl)) pss_nil)
      (C8.pss_cut (ps_if (pt_cmpR op_eq (pv 9) pe_str (nomark _)) (pss_cons (ps_set (i := 10) sc_law.nd rfl (.inl rfl) (pe_call (G_law_after.mono (by first | decide | omega)) hr (by rfl) T.g_law_after T.F_law_after.kp T.b_law_after .nil pass0 (pa_cons (pv 3) (pa_cons (pv 4) (pa_cons (pv 8) pa_nil)))))
      (pss_cons (ps_if (pt_cmpR op_ne (pe_cmpR (op_eqOwn G_Bench_eq T.me_Bench_eq T.b_Bench_eq (hr.mono (by decide))) (pv 5) (pv 6) (nomark _)) (pe_cmpR (op_eqP hr.units) (pv 10) (pv 4) (nomark _)) (nomark _)) (pss_one (ps_ret pe_bl)) pss_nil)
      (pss_cons (ps_set (i := 4) sc_law.nd rfl (.inl rfl) (pv 10))
      (pss_one (ps_expr (pe_call (G_law_do.mono (by first | decide | omega)) hr (by rfl) T.g_law_do T.F_law_do.kp T.b_law_do .nil pass0 (pa_cons (pv 6) (pa_cons (pv 8) pa_nil)))))))) pss_nil)
      (pss_one (ps_if (PW.pt (pw_or (pt_not (pt_cmpR (op_eqOwn G_Bench_eq T.me_Bench_eq T.b_Bench_eq (hr.mono (by decide))) (pv 5) (pv 6) (nomark _))) (pw_or (pt_cmpR (op_eqOwn G_Bench_eq T.me_Bench_eq T.b_Bench_eq (hr.mono (by decide))) (pv 5) (pe_ix ix_tup (pv 4) pe_int (fun _ _ => rfl)) (nomark _)) (pw_or1 (pt_not (pt_val (pe_call (G_law_right.mono (by first | decide | omega)) hr (by rfl) T.g_law_right T.F_law_right.kp T.b_law_right .nil pass0 (pa_cons (pv 5) (pa_cons (pv 3) (pa_cons (pv 4) pa_nil)))))))))) (pss_one (ps_ret pe_bl)) pss_nil)))))))))))))
      (pss_one (ps_ret pe_bl))), ?_⟩
    refine ⟨by show 1 ≤ sizeLine; decide, fun z nz => ⟨.ref a, rfl, z, a, [.int 0], iV ns, rfl, rfl, .inl (.inl upd_same), (same_new nz).seq hS, ?_, fun p np => ⟨6, rfl, p, _, rfl, .inl (.inl upd_same), fun c nc => ?_⟩⟩⟩
    · exact Nat.le_of_lt (small1000 (by simp; omega))
    have ecut : cutV ([V.int 0] ++ iV ns) none (some 6) = iV (((0 : Int) :: ns).take 6) := by
      rw [show (some (6 : Int)) = some ((6 : Nat) : Int) from rfl, cut_to]
      show _ = (((0 : Int) :: ns).take 6).map V.int
      rw [List.map_take]
      rfl
    rw [ecut]
    generalize ((0 : Int) :: ns).take 6 = cells
    have hTc : Tabs L.tabs (upd (upd (upd H z (.lst [.int 0])) p (.lst ([V.int 0] ++ iV ns))) c (.lst (iV cells))) := hT.ext (((same_new nz).trans (same_new np)).trans (same_new nc))
    have hc0 : upd (upd (upd H z (.lst [.int 0])) p (.lst ([V.int 0] ++ iV ns))) c (.lst (iV cells)) c = some (.lst (iV cells)) := upd_same
    generalize upd (upd (upd H z (.lst [.int 0])) p (.lst ([V.int 0] ++ iV ns))) c (.lst (iV cells)) = Hc at *
    refine ⟨c, rfl, ⟨_, .inl (.inl hc0)⟩, ?_⟩
    refine for_list (K := K) (a := c) (xs := iV cells) (fun i σ H' => H' c = some (.lst (iV cells)) ∧ Tabs L.tabs H' ∧ ∃ y1 y2 y3 y4 y5 y6 y7 y8 y9 y10, σ = [some (.ref a), y1, y2, y3, y4, y5, y6, y7, y8, y9, y10])
      ⟨hc0, hTc, _, _, _, _, _, _, _, _, _, _, rfl⟩ (fun i σ H' _ p => .inl (.inl p.1)) (fun i x σ H0 hx p => ?_) (fun σ H' p => ?_)
    · obtain ⟨hc0, hT0, y1, y2, y3, y4, y5, y6, y7, y8, y9, y10, rfl⟩ := p
      obtain ⟨cell, _, rfl⟩ := List.mem_map.mp (List.mem_of_getElem? hx)
      refine ⟨_, rfl, cell, 11, rfl, by decide, by decide, fun k H1 s1 nk dk1 => ?_⟩
      have nck : c ≠ k := ne_of_none hc0 nk
      have hc1 := s1 _ _ hc0
      have hT1 := hT0.ext s1
      -- shelf
      refine ⟨.ref k, rfl, .ref k, rfl, by show 2 ≤ sizeLine; decide, fun z2 nz2 => ?_⟩
      have nz2k := dk1.ne nz2
      refine ⟨k, z2, [.int 3, .int 30], 999999, rfl, .inl (.inl (off_up nz2k)), by decide, by decide, dk1.same (same_new nz2), fun x H2 hx2 dk2 s2 => ?_⟩
      obtain ⟨plm, rfl, pl0, pl4⟩ : ∃ pl : Int, x = .int pl ∧ 0 ≤ pl ∧ pl ≤ 400 := by
        have : x = .int 3 ∨ x = .int 30 := by simpa using hx2
        rcases this with e | e
        · exact ⟨3, e, by decide, by decide⟩
        · exact ⟨30, e, by decide, by decide⟩
      have o2 : Same (Off k H1) (Off k H2) := (off_new nz2).trans s2
      refine ⟨k, 8, plm, 999979, rfl, by decide, by decide, pl0, pl4, dk2, fun v H3 room ls sh _ _ dk3 s3 hv3 => ?_⟩
      have o3 := o2.trans s3
      have n8 := sh.n8
      -- the state
      refine ⟨.ref k, rfl, v, rfl, k, v, room, ls, 999959, rfl, hv3, sh, dk3, fun u1 H4 y riy dk4 o4 hu4 => ?_⟩
      have o4' := o3.trans o4
      have f4 := off_same k H4
      have hc4 := off_back o4' nck hc1
      obtain ⟨l1, hk1⟩ := dk1.lst
      have hT4 := tabs_off hk1 (fun ps z => by cases z) (fun φ z => by cases z) o4' hT1
      have hv4 := Dpm (o4.trans f4) hv3
      have hu4 := Dpm f4 hu4
      refine ⟨v, rfl, v, room, ls, rfl, hv4, n8, fun p5 H5 e1 e2 s5 np5 hp5 hd1 hd2 => ?_⟩
      refine ⟨p5, [e1, e2], rfl, .inl ⟨.inl (.inl hp5), fun c6 nc6 => ?_⟩⟩
      have s6 := same_new (o := .tup [e1, e2]) nc6
      have hd6 : Dp K (upd H5 c6 (.tup [e1, e2])) (.ref c6) (dgD ls (fun _ => 0) (fun _ => room - ls.sum)) := .tup (.inl (.inl upd_same)) (.cons (Dpm s6 hd1) (.cons (Dpm s6 hd2) .nil))
      generalize upd H5 c6 (.tup [e1, e2]) = H6 at *
      refine ⟨by show 4 ≤ sizeLine; decide, fun t7 nt7 => ?_⟩
      have s7 := same_new (o := .tup [u1, .ref c6, .int 0, .non]) nt7
      have t47 := (s5.trans s6).trans s7
      have hs7 : Dp K (upd H6 t7 (.tup [u1, .ref c6, .int 0, .non])) (.ref t7) (steD ls y (fun _ => 0) (fun _ => room - ls.sum) 0 none) := .tup (.inl (.inl upd_same)) (.cons (Dpm t47 hu4) (.cons (Dpm s7 hd6) (.cons (.int _) (.cons .non .nil))))
      generalize upd H6 t7 (.tup [u1, .ref c6, .int 0, .non]) = H7 at *
      have hc7 := t47 _ _ hc4
      have hT7 := hT4.ext t47
      have dk7 := dk4.same t47
      have hv7 := Dpm t47 hv4
      have hu7 := Dpm t47 hu4
      have r0 : Rise ls.length (room - ls.sum) (fun _ => 0) := ⟨fun j _ => Int.le_refl _, fun j _ => by have := sh.lo; show (0 : Int) ≤ _; omega, fun j _ => Int.le_refl _⟩
      have rR : Rise ls.length (room - ls.sum) (fun _ => room - ls.sum) := ⟨fun j _ => by have := sh.lo; show (0 : Int) ≤ room - ls.sum; omega, fun j _ => Int.le_refl _, fun j _ => Int.le_refl _⟩
      obtain ⟨sa, w1, w2, w4, ew, ss, g1, g2, g4⟩ := dp_state hs7
      cases ew
      -- two benches
      refine ⟨_, rfl, _, rfl, _, _, 0, _, rfl, rfl, ss, atI_nat (j := 0) rfl, ?_⟩
      intro xa da nxa nda nea
      have sm : Same H7 (upd (upd H7 da (.own xa)) xa (.ins T.C_Bench da [])) := (same_new nda).trans (same_new (by rw [upd_ne nea.symm]; exact nxa))
      refine ⟨xa, da, v, w1, room, ls, y, rfl, upd_same, Dpm sm hv7, sh, Dpm sm g1, riy, fun H8 s8 b8 => ⟨rfl, ?_⟩⟩
      have t8 := same_out sm nxa s8
      refine ⟨_, rfl, _, rfl, _, _, 0, _, rfl, rfl, seqT_mono t8 ss, atI_nat (j := 0) rfl, ?_⟩
      intro xb db nxb ndb neb
      have sm' : Same H8 (upd (upd H8 db (.own xb)) xb (.ins T.C_Bench db [])) := (same_new ndb).trans (same_new (by rw [upd_ne neb.symm]; exact nxb))
      refine ⟨xb, db, v, w1, room, ls, y, rfl, upd_same, Dpm (t8.trans sm') hv7, sh, Dpm (t8.trans sm') g1, riy, fun H9 s9 b9 => ⟨rfl, _, _, rfl, ?_⟩⟩
      have t9' := same_out sm' nxb s9
      have t9 := t8.trans t9'
      have nab : xa ≠ xb := by
        obtain ⟨_, _, hxa⟩ := b8.at_
        exact ne_of_none hxa nxb
      have N9 : Inn K T.C_Bench L.tabs cells c k xa xb room ls v 990000 y (fun _ => 0) (fun _ => room - ls.sum) 0 none y (fun _ => 0) (fun _ => room - ls.sum) 0 none H9 := ⟨t9 _ _ hc7, (dk7.same t9).le (by decide), hT7.ext t9, Dpm t9 hv7, b8.same t9', b9, nck, nab⟩
      have hs9 := Dpm t9 hs7
      clear hd1 hd2 hd6 hs7 g1 g2 g4 hu7 hv7 hc7 hT7 dk7 hu4 hv4 hT4 hc4 ss sm sm' s8 s9 b8 b9 t8 t9 t9' t47 s5 s6 s7 hv3 dk3 dk4
      refine ⟨40, rfl, by decide, by decide, ?_⟩
      refine for_range (lo := 0) (n := (40 : Int).toNat) (fun i σ H' => ∃ (u : V) (y lo hi : Nat → Int) (m : Int) (wi : Option (Nat → Int)) (y7 y8 y9 y10 : Option V), σ = [some (.ref a), some (.int cell), some (.ref k), some v, some u, some (.ref xa), some (.ref xb), y7, y8, y9, y10] ∧
          Inn K T.C_Bench L.tabs cells c k xa xb room ls v (990000 - 100 * i) y lo hi m wi y lo hi m wi H' ∧ Dp K H' u (steD ls y lo hi m wi) ∧ Rise ls.length (room - ls.sum) y ∧ Rise ls.length (room - ls.sum) lo ∧ Rise ls.length (room - ls.sum) hi ∧ ∀ t, wi = some t → Rise ls.length (room - ls.sum) t)
        ⟨_, _, _, _, _, _, _, _, _, _, rfl, N9, hs9, riy, r0, rR, fun t e => by cases e⟩ (fun i σ H' hi' p => ?_) (fun σ H' p => ?_)
      · have hi' : i < 40 := hi'
        clear N9 hs9 r0 rR riy
        obtain ⟨u, y, lo, hi, m, wi, y7, y8, y9, y10, rfl, N, hu, r1, r2, r3, r4⟩ := p
        obtain ⟨lk, hk⟩ := N.dk.lst
        refine ⟨_, rfl, _, rfl, _, rfl, k, v, u, room, ls, y, lo, hi, m, wi, 990000 - 100 * i - 30, rfl, dp_off hk _ _ (noL_shD room ls) N.hv, sh, dp_off hk _ _ (noL_steD ls y lo hi m wi) hu, r1, r4, N.dk.le (by omega), fun zd H2 kk d dd dk2 s2 hz => ?_⟩
        have N2 := N.deck s2 dk2
        have hu2 := mvK hk s2 (noL_steD ls y lo hi m wi) hu
        have hz2 := Dpm (off_same k H2) hz
        refine ⟨_, rfl, _, rfl, v, zd, room, ls, kk, d, rfl, N2.hv, sh, hz2, fun H3 s3 => ?_⟩
        have N3 := N2.same s3
        have hu3 := Dpm s3 hu2
        have hz3 := Dpm s3 hz2
        clear N N2 hu hu2 hz hz2 hk s2 s3 dk2
        refine ⟨fun σ H' => ∃ (y' lo' hi' : Nat → Int) (m' : Int) (wi' : Option (Nat → Int)), σ = [some (.ref a), some (.int cell), some (.ref k), some v, some u, some (.ref xa), some (.ref xb), some (.int (0 + (i : Int))), some zd, some (.str (dueS room ls kk d)), y10] ∧
          Inn K T.C_Bench L.tabs cells c k xa xb room ls v (990000 - 100 * i - 30) y' lo' hi' m' wi' y lo hi m wi H' ∧ Dp K H' u (steD ls y lo hi m wi) ∧ Dp K H' zd (deD kk d) ∧ (Deed room ls kk d y lo hi m wi y' lo' hi' m' wi' ∨ (isGood room ls kk d = false ∧ y' = y ∧ lo' = lo ∧ hi' = hi ∧ m' = m ∧ wi' = wi)), ?_, ?_⟩
        · obtain ⟨dxa, fsa, hxa⟩ := N3.b1.at_
          refine ⟨_, rfl, _, rfl, xa, zd, room, ls, y, lo, hi, m, wi, kk, d, rfl, N3.b1, sh, r1, r2, r3, hz3, by omega, N3.tb, fun H4 y' lo' hi2 m' wi' e4 T4 de b4 => ?_, fun eb H4 e4 T4 b4 => ?_⟩
          · have ed : dueS room ls kk d = "" := by
              unfold dueS
              rw [if_pos (de.good sh)]
            refine ⟨_, rfl, rfl, _, rfl, iteNS (by rw [ed]) ?_⟩
            exact ⟨y', lo', hi2, m', wi', rfl, N3.one e4 T4 b4, mvX hxa e4 hu3, mvX hxa e4 hz3, .inl de⟩
          · have ed : dueS room ls kk d = badS kk := by
              unfold dueS
              rw [if_neg (by rw [eb]; decide)]
            refine ⟨_, rfl, rfl, _, rfl, iteNS (by rw [ed]) ?_⟩
            exact ⟨y, lo, hi, m, wi, rfl, N3.one e4 T4 b4, mvX hxa e4 hu3, mvX hxa e4 hz3, .inr ⟨eb, rfl, rfl, rfl, rfl, rfl⟩⟩
        · rintro σ H4 ⟨y', lo', hi2, m', wi', rfl, N4, hu4, hz4, de⟩
          refine ⟨fun σ H' => ∃ (u : V) (y lo hi : Nat → Int) (m : Int) (wi : Option (Nat → Int)) (y7 y8 y9 y10 : Option V), σ = [some (.ref a), some (.int cell), some (.ref k), some v, some u, some (.ref xa), some (.ref xb), y7, y8, y9, y10] ∧
            Inn K T.C_Bench L.tabs cells c k xa xb room ls v (990000 - 100 * i - 30) y lo hi m wi y lo hi m wi H' ∧ Dp K H' u (steD ls y lo hi m wi) ∧ Rise ls.length (room - ls.sum) y ∧ Rise ls.length (room - ls.sum) lo ∧ Rise ls.length (room - ls.sum) hi ∧ ∀ t, wi = some t → Rise ls.length (room - ls.sum) t, ?_, ?_⟩
          · refine ⟨_, rfl, rfl, _, rfl, ?_⟩
            rcases de with de | ⟨eb, rfl, rfl, rfl, rfl, rfl⟩
            · have ed : dueS room ls kk d = "" := by
                unfold dueS
                rw [if_pos (de.good sh)]
              rw [decide_eq_true (show V.str (dueS room ls kk d) = V.str "" by rw [ed])]
              refine iteT ⟨_, rfl, _, rfl, _, rfl, v, u, zd, room, ls, y, lo, hi, m, wi, kk, d, y', lo', hi2, m', wi', rfl, N4.hv, sh, hu4, hz4, r1, r2, r3, de, fun nw H5 s5 hnw => ?_⟩
              have N5 := N4.same s5
              have hu5 := Dpm s5 hu4
              have hz5 := Dpm s5 hz4
              obtain ⟨dxa, fsa, hxa⟩ := N5.b1.at_
              obtain ⟨dxb, fsb, hxb⟩ := N5.b2.at_
              refine ⟨_, rfl, _, rfl, xa, dxa, _, _, rfl, hxa, .base (.ins hxb T.cl_Bench B.ca B.cn B.ct B.cm), nf_self, xa, _, room, ls, y', lo', hi2, m', wi', rfl, N5.b1, .inl ⟨xb, y, lo, hi, m, wi, rfl, N5.b2, ⟨_, rfl⟩, ?_⟩⟩
              refine ⟨_, rfl, _, rfl, _, _, hnw, hu5, steD_self ls y' lo' hi2 m' wi', rfl, _, rfl, ?_⟩
              refine iteNS (by rw [benEq_eqv]) ?_
              refine ⟨_, rfl, ?_⟩
              refine ⟨_, rfl, _, rfl, xb, zd, room, ls, y, lo, hi, m, wi, kk, d, rfl, N5.b2, sh, r1, r2, r3, hz5, by omega, N5.tb, fun H6 ya la ha ma wa e6 T6 de6 b6 => ?_, fun eb => ?_⟩
              · obtain ⟨rfl, rfl, rfl, rfl, ew⟩ := de.uniq de6
                obtain ⟨q1, q2, q3, q4⟩ := de.rise r1 r2 r3 r4
                exact ⟨nw, ya, la, ha, ma, wi', _, _, _, _, rfl, N5.two e6 T6 (b6.wiE ew), mvX hxb e6 hnw, q1, q2, q3, q4⟩
              · rw [de.good sh] at eb
                cases eb
            · have ed : dueS room ls kk d = badS kk := by
                unfold dueS
                rw [if_neg (by rw [eb]; decide)]
              rw [decide_eq_false (show V.str (dueS room ls kk d) ≠ V.str "" by
                rw [ed]
                cases kk <;> decide +kernel)]
              exact iteF ⟨u, _, _, _, _, _, _, _, _, _, rfl, N4, hu4, r1, r2, r3, r4⟩
          · rintro σ H5 ⟨u, y, lo, hi, m, wi, y7, y8, y9, y10, rfl, N5, hu5, r1, r2, r3, r4⟩
            obtain ⟨dxa, fsa, hxa⟩ := N5.b1.at_
            obtain ⟨dxb, fsb, hxb⟩ := N5.b2.at_
            obtain ⟨sa, w1, w2, w4, rfl, ss, g1, g2, g4⟩ := dp_state hu5
            refine ⟨_, rfl, _, rfl, xa, dxa, _, _, rfl, hxa, .base (.ins hxb T.cl_Bench B.ca B.cn B.ct B.cm), nf_self, xa, _, room, ls, y, lo, hi, m, wi, rfl, N5.b1, .inl ⟨xb, y, lo, hi, m, wi, rfl, N5.b2, ⟨_, rfl⟩, _, rfl, ?_⟩⟩
            rw [benEq_eqv, eqv_self hu5]
            refine iteF ?_
            refine ⟨_, rfl, _, rfl, _, _, 0, _, rfl, rfl, ss, atI_nat (j := 0) rfl, xa, dxa, _, _, rfl, hxa, dp_ty g1, B.nf, xa, _, room, ls, y, lo, hi, m, wi, rfl, N5.b1, .inr ⟨_, g1, ⟨_, rfl⟩, _, rfl, iteF ?_⟩⟩
            refine ⟨_, rfl, _, rfl, _, rfl, xa, v, _, room, ls, y, lo, hi, m, wi, rfl, N5.b1, N5.hv, sh, hu5, r1, r4, N5.tb, fun H6 e6 T6 => ⟨_, rfl, iteF ?_⟩⟩
            have N6 := N5.ext e6 T6
            exact ⟨_, y, lo, hi, m, wi, _, _, _, _, rfl, ⟨N6.hc, N6.dk.le (by omega), N6.tb, N6.hv, N6.b1, N6.b2, N6.nck, N6.nx⟩, dp_ext e6 hu5, r1, r2, r3, r4⟩
      · obtain ⟨u, y, lo, hi, m, wi, y7, y8, y9, y10, rfl, N, _⟩ := p
        exact ⟨N.hc, N.tb, _, _, _, _, _, _, _, _, _, _, rfl⟩
    · exact q _
end PS

namespace PS
open PySem PySem.Spec PyProof.Rows L2 LamX HT L2H
theorem all_mk {l : PySem.W.OpenLaw} {w : World} {K : PySem.W.Frag} {h : Heap} {mg : Str → Option Value} {fa : Addr} {qq : Program} (X : K.In h) (G : h.Ns mainGlobals mg) (hfa : mg "law" = some (.ref fa)) (TQ : TabsAt qq K h)
    (rq0 : ((recsOf qq).any fun e => e.name == ("_law_do" : Str)) = true) (rq1 : ((recsOf qq).any fun e => e.name == ("_law_right" : Str)) = true)
    {C_Band : Addr}
    {C_Bench : Addr}
    {C_ShelfError C_NoShelf C_NoStand C_NoRow C_NoDoing C_NoPush C_NoWish : Addr}
    (aC_ShelfError : PySem.W.nsIn K mainGlobals "ShelfError" = some (some (.ref C_ShelfError)))
    (aC_NoShelf : PySem.W.nsIn K mainGlobals "NoShelf" = some (some (.ref C_NoShelf)))
    (aC_NoStand : PySem.W.nsIn K mainGlobals "NoStand" = some (some (.ref C_NoStand)))
    (aC_NoRow : PySem.W.nsIn K mainGlobals "NoRow" = some (some (.ref C_NoRow)))
    (aC_NoDoing : PySem.W.nsIn K mainGlobals "NoDoing" = some (some (.ref C_NoDoing)))
    (aC_NoPush : PySem.W.nsIn K mainGlobals "NoPush" = some (some (.ref C_NoPush)))
    (aC_NoWish : PySem.W.nsIn K mainGlobals "NoWish" = some (some (.ref C_NoWish)))
    {f0 : Addr} {od0 an0 : Option Addr} {sl0 : Array (Option Value)} {oc0 kV0 dc0 pm0 ct0 : Value} {cd0 : Value}
    (a0 : PySem.W.nsIn K mainGlobals "is_whole" = some (some (.ref f0))) (l0 : K.lookup f0 = some ⟨oc0, od0, .func (PySem.W.fnOf "is_whole" "is_whole" (defArgs s_is_whole) (defBody s_is_whole) (defScope s_is_whole) .none kV0 dc0 pm0 an0 cd0 ct0), sl0⟩) (c0 : PySem.W.codeIn K cd0 "is_whole" = true) (k0 : PySem.W.keepIn K (.ref f0) = true)
    {f1 : Addr} {od1 an1 : Option Addr} {sl1 : Array (Option Value)} {oc1 kV1 dc1 pm1 ct1 : Value} {cd1 : Value}
    (a1 : PySem.W.nsIn K mainGlobals "is_within" = some (some (.ref f1))) (l1 : K.lookup f1 = some ⟨oc1, od1, .func (PySem.W.fnOf "is_within" "is_within" (defArgs s_is_within) (defBody s_is_within) (defScope s_is_within) .none kV1 dc1 pm1 an1 cd1 ct1), sl1⟩) (c1 : PySem.W.codeIn K cd1 "is_within" = true) (k1 : PySem.W.keepIn K (.ref f1) = true)
    {f2 : Addr} {od2 an2 : Option Addr} {sl2 : Array (Option Value)} {oc2 kV2 dc2 pm2 ct2 : Value} {cd2 : Value}
    (a2 : PySem.W.nsIn K mainGlobals "is_tuple_of" = some (some (.ref f2))) (l2 : K.lookup f2 = some ⟨oc2, od2, .func (PySem.W.fnOf "is_tuple_of" "is_tuple_of" (defArgs s_is_tuple_of) (defBody s_is_tuple_of) (defScope s_is_tuple_of) .none kV2 dc2 pm2 an2 cd2 ct2), sl2⟩) (c2 : PySem.W.codeIn K cd2 "is_tuple_of" = true) (k2 : PySem.W.keepIn K (.ref f2) = true)
    {f3 : Addr} {od3 an3 : Option Addr} {sl3 : Array (Option Value)} {oc3 kV3 dc3 pm3 ct3 : Value} {cd3 : Value}
    (a3 : PySem.W.nsIn K mainGlobals "are_blocks" = some (some (.ref f3))) (l3 : K.lookup f3 = some ⟨oc3, od3, .func (PySem.W.fnOf "are_blocks" "are_blocks" (defArgs s_are_blocks) (defBody s_are_blocks) (defScope s_are_blocks) .none kV3 dc3 pm3 an3 cd3 ct3), sl3⟩) (c3 : PySem.W.codeIn K cd3 "are_blocks" = true) (k3 : PySem.W.keepIn K (.ref f3) = true)
    {f4 : Addr} {od4 an4 : Option Addr} {sl4 : Array (Option Value)} {oc4 kV4 dc4 pm4 ct4 : Value} {cd4 : Value}
    (a4 : PySem.W.nsIn K mainGlobals "is_shelf" = some (some (.ref f4))) (l4 : K.lookup f4 = some ⟨oc4, od4, .func (PySem.W.fnOf "is_shelf" "is_shelf" (defArgs s_is_shelf) (defBody s_is_shelf) (defScope s_is_shelf) .none kV4 dc4 pm4 an4 cd4 ct4), sl4⟩) (c4 : PySem.W.codeIn K cd4 "is_shelf" = true) (k4 : PySem.W.keepIn K (.ref f4) = true)
    {f5 : Addr} {od5 an5 : Option Addr} {sl5 : Array (Option Value)} {oc5 kV5 dc5 pm5 ct5 : Value} {cd5 : Value}
    (a5 : PySem.W.nsIn K mainGlobals "need_shelf" = some (some (.ref f5))) (l5 : K.lookup f5 = some ⟨oc5, od5, .func (PySem.W.fnOf "need_shelf" "need_shelf" (defArgs s_need_shelf) (defBody s_need_shelf) (defScope s_need_shelf) .none kV5 dc5 pm5 an5 cd5 ct5), sl5⟩) (c5 : PySem.W.codeIn K cd5 "need_shelf" = true) (k5 : PySem.W.keepIn K (.ref f5) = true)
    {f6 : Addr} {od6 an6 : Option Addr} {sl6 : Array (Option Value)} {oc6 kV6 dc6 pm6 ct6 : Value} {cd6 : Value}
    (a6 : PySem.W.nsIn K mainGlobals "play_of" = some (some (.ref f6))) (l6 : K.lookup f6 = some ⟨oc6, od6, .func (PySem.W.fnOf "play_of" "play_of" (defArgs s_play_of) (defBody s_play_of) (defScope s_play_of) .none kV6 dc6 pm6 an6 cd6 ct6), sl6⟩) (c6 : PySem.W.codeIn K cd6 "play_of" = true) (k6 : PySem.W.keepIn K (.ref f6) = true)
    {f7 : Addr} {od7 an7 : Option Addr} {sl7 : Array (Option Value)} {oc7 kV7 dc7 pm7 ct7 : Value} {cd7 : Value}
    (a7 : PySem.W.nsIn K mainGlobals "gap_length" = some (some (.ref f7))) (l7 : K.lookup f7 = some ⟨oc7, od7, .func (PySem.W.fnOf "gap_length" "gap_length" (defArgs s_gap_length) (defBody s_gap_length) (defScope s_gap_length) .none kV7 dc7 pm7 an7 cd7 ct7), sl7⟩) (c7 : PySem.W.codeIn K cd7 "gap_length" = true) (k7 : PySem.W.keepIn K (.ref f7) = true)
    {f8 : Addr} {od8 an8 : Option Addr} {sl8 : Array (Option Value)} {oc8 kV8 dc8 pm8 ct8 : Value} {cd8 : Value}
    (a8 : PySem.W.nsIn K mainGlobals "places_of" = some (some (.ref f8))) (l8 : K.lookup f8 = some ⟨oc8, od8, .func (PySem.W.fnOf "places_of" "places_of" (defArgs s_places_of) (defBody s_places_of) (defScope s_places_of) .none kV8 dc8 pm8 an8 cd8 ct8), sl8⟩) (c8 : PySem.W.codeIn K cd8 "places_of" = true) (k8 : PySem.W.keepIn K (.ref f8) = true)
    {f9 : Addr} {od9 an9 : Option Addr} {sl9 : Array (Option Value)} {oc9 kV9 dc9 pm9 ct9 : Value} {cd9 : Value}
    (a9 : PySem.W.nsIn K mainGlobals "packed" = some (some (.ref f9))) (l9 : K.lookup f9 = some ⟨oc9, od9, .func (PySem.W.fnOf "packed" "packed" (defArgs s_packed) (defBody s_packed) (defScope s_packed) .none kV9 dc9 pm9 an9 cd9 ct9), sl9⟩) (c9 : PySem.W.codeIn K cd9 "packed" = true) (k9 : PySem.W.keepIn K (.ref f9) = true)
    {f10 : Addr} {od10 an10 : Option Addr} {sl10 : Array (Option Value)} {oc10 kV10 dc10 pm10 ct10 : Value} {cd10 : Value}
    (a10 : PySem.W.nsIn K mainGlobals "leftmost" = some (some (.ref f10))) (l10 : K.lookup f10 = some ⟨oc10, od10, .func (PySem.W.fnOf "leftmost" "leftmost" (defArgs s_leftmost) (defBody s_leftmost) (defScope s_leftmost) .none kV10 dc10 pm10 an10 cd10 ct10), sl10⟩) (c10 : PySem.W.codeIn K cd10 "leftmost" = true) (k10 : PySem.W.keepIn K (.ref f10) = true)
    {f11 : Addr} {od11 an11 : Option Addr} {sl11 : Array (Option Value)} {oc11 kV11 dc11 pm11 ct11 : Value} {cd11 : Value}
    (a11 : PySem.W.nsIn K mainGlobals "rightmost" = some (some (.ref f11))) (l11 : K.lookup f11 = some ⟨oc11, od11, .func (PySem.W.fnOf "rightmost" "rightmost" (defArgs s_rightmost) (defBody s_rightmost) (defScope s_rightmost) .none kV11 dc11 pm11 an11 cd11 ct11), sl11⟩) (c11 : PySem.W.codeIn K cd11 "rightmost" = true) (k11 : PySem.W.keepIn K (.ref f11) = true)
    {f12 : Addr} {od12 an12 : Option Addr} {sl12 : Array (Option Value)} {oc12 kV12 dc12 pm12 ct12 : Value} {cd12 : Value}
    (a12 : PySem.W.nsIn K mainGlobals "is_stand" = some (some (.ref f12))) (l12 : K.lookup f12 = some ⟨oc12, od12, .func (PySem.W.fnOf "is_stand" "is_stand" (defArgs s_is_stand) (defBody s_is_stand) (defScope s_is_stand) .none kV12 dc12 pm12 an12 cd12 ct12), sl12⟩) (c12 : PySem.W.codeIn K cd12 "is_stand" = true) (k12 : PySem.W.keepIn K (.ref f12) = true)
    {f13 : Addr} {od13 an13 : Option Addr} {sl13 : Array (Option Value)} {oc13 kV13 dc13 pm13 ct13 : Value} {cd13 : Value}
    (a13 : PySem.W.nsIn K mainGlobals "need_stand" = some (some (.ref f13))) (l13 : K.lookup f13 = some ⟨oc13, od13, .func (PySem.W.fnOf "need_stand" "need_stand" (defArgs s_need_stand) (defBody s_need_stand) (defScope s_need_stand) .none kV13 dc13 pm13 an13 cd13 ct13), sl13⟩) (c13 : PySem.W.codeIn K cd13 "need_stand" = true) (k13 : PySem.W.keepIn K (.ref f13) = true)
    {f14 : Addr} {od14 an14 : Option Addr} {sl14 : Array (Option Value)} {oc14 kV14 dc14 pm14 ct14 : Value} {cd14 : Value}
    (a14 : PySem.W.nsIn K mainGlobals "is_gap" = some (some (.ref f14))) (l14 : K.lookup f14 = some ⟨oc14, od14, .func (PySem.W.fnOf "is_gap" "is_gap" (defArgs s_is_gap) (defBody s_is_gap) (defScope s_is_gap) .none kV14 dc14 pm14 an14 cd14 ct14), sl14⟩) (c14 : PySem.W.codeIn K cd14 "is_gap" = true) (k14 : PySem.W.keepIn K (.ref f14) = true)
    {f15 : Addr} {od15 an15 : Option Addr} {sl15 : Array (Option Value)} {oc15 kV15 dc15 pm15 ct15 : Value} {cd15 : Value}
    (a15 : PySem.W.nsIn K mainGlobals "is_push" = some (some (.ref f15))) (l15 : K.lookup f15 = some ⟨oc15, od15, .func (PySem.W.fnOf "is_push" "is_push" (defArgs s_is_push) (defBody s_is_push) (defScope s_is_push) .none kV15 dc15 pm15 an15 cd15 ct15), sl15⟩) (c15 : PySem.W.codeIn K cd15 "is_push" = true) (k15 : PySem.W.keepIn K (.ref f15) = true)
    {f16 : Addr} {od16 an16 : Option Addr} {sl16 : Array (Option Value)} {oc16 kV16 dc16 pm16 ct16 : Value} {cd16 : Value}
    (a16 : PySem.W.nsIn K mainGlobals "pushed_right" = some (some (.ref f16))) (l16 : K.lookup f16 = some ⟨oc16, od16, .func (PySem.W.fnOf "pushed_right" "pushed_right" (defArgs s_pushed_right) (defBody s_pushed_right) (defScope s_pushed_right) .none kV16 dc16 pm16 an16 cd16 ct16), sl16⟩) (c16 : PySem.W.codeIn K cd16 "pushed_right" = true) (k16 : PySem.W.keepIn K (.ref f16) = true)
    {f17 : Addr} {od17 an17 : Option Addr} {sl17 : Array (Option Value)} {oc17 kV17 dc17 pm17 ct17 : Value} {cd17 : Value}
    (a17 : PySem.W.nsIn K mainGlobals "pushed_left" = some (some (.ref f17))) (l17 : K.lookup f17 = some ⟨oc17, od17, .func (PySem.W.fnOf "pushed_left" "pushed_left" (defArgs s_pushed_left) (defBody s_pushed_left) (defScope s_pushed_left) .none kV17 dc17 pm17 an17 cd17 ct17), sl17⟩) (c17 : PySem.W.codeIn K cd17 "pushed_left" = true) (k17 : PySem.W.keepIn K (.ref f17) = true)
    {f18 : Addr} {od18 an18 : Option Addr} {sl18 : Array (Option Value)} {oc18 kV18 dc18 pm18 ct18 : Value} {cd18 : Value}
    (a18 : PySem.W.nsIn K mainGlobals "pushed" = some (some (.ref f18))) (l18 : K.lookup f18 = some ⟨oc18, od18, .func (PySem.W.fnOf "pushed" "pushed" (defArgs s_pushed) (defBody s_pushed) (defScope s_pushed) .none kV18 dc18 pm18 an18 cd18 ct18), sl18⟩) (c18 : PySem.W.codeIn K cd18 "pushed" = true) (k18 : PySem.W.keepIn K (.ref f18) = true)
    {f19 : Addr} {od19 an19 : Option Addr} {sl19 : Array (Option Value)} {oc19 kV19 dc19 pm19 ct19 : Value} {cd19 : Value}
    (a19 : PySem.W.findIn K (.ref C_Band) "__init__" = some (some (.ref f19))) (i19 : PySem.W.isFn K (.ref f19) = true) (l19 : K.lookup f19 = some ⟨oc19, od19, .func (PySem.W.fnOf "__init__" "Band.__init__" (defArgs s_Band_init) (defBody s_Band_init) (defScope s_Band_init) .none kV19 dc19 pm19 an19 cd19 ct19), sl19⟩) (c19 : PySem.W.codeIn K cd19 "Band.__init__" = true) (k19 : PySem.W.keepIn K (.ref f19) = true)
    {f20 : Addr} {od20 an20 : Option Addr} {sl20 : Array (Option Value)} {oc20 kV20 dc20 pm20 ct20 : Value} {cd20 : Value}
    (a20 : PySem.W.nsIn K mainGlobals "band_from" = some (some (.ref f20))) (l20 : K.lookup f20 = some ⟨oc20, od20, .func (PySem.W.fnOf "band_from" "band_from" (defArgs s_band_from) (defBody s_band_from) (defScope s_band_from) .none kV20 dc20 pm20 an20 cd20 ct20), sl20⟩) (c20 : PySem.W.codeIn K cd20 "band_from" = true) (k20 : PySem.W.keepIn K (.ref f20) = true)
    {f21 : Addr} {od21 an21 : Option Addr} {sl21 : Array (Option Value)} {oc21 kV21 dc21 pm21 ct21 : Value} {cd21 : Value}
    (a21 : PySem.W.nsIn K mainGlobals "bands_of" = some (some (.ref f21))) (l21 : K.lookup f21 = some ⟨oc21, od21, .func (PySem.W.fnOf "bands_of" "bands_of" (defArgs s_bands_of) (defBody s_bands_of) (defScope s_bands_of) .none kV21 dc21 pm21 an21 cd21 ct21), sl21⟩) (c21 : PySem.W.codeIn K cd21 "bands_of" = true) (k21 : PySem.W.keepIn K (.ref f21) = true)
    {f22 : Addr} {od22 an22 : Option Addr} {sl22 : Array (Option Value)} {oc22 kV22 dc22 pm22 ct22 : Value} {cd22 : Value}
    (a22 : PySem.W.nsIn K mainGlobals "raised" = some (some (.ref f22))) (l22 : K.lookup f22 = some ⟨oc22, od22, .func (PySem.W.fnOf "raised" "raised" (defArgs s_raised) (defBody s_raised) (defScope s_raised) .none kV22 dc22 pm22 an22 cd22 ct22), sl22⟩) (c22 : PySem.W.codeIn K cd22 "raised" = true) (k22 : PySem.W.keepIn K (.ref f22) = true)
    {f23 : Addr} {od23 an23 : Option Addr} {sl23 : Array (Option Value)} {oc23 kV23 dc23 pm23 ct23 : Value} {cd23 : Value}
    (a23 : PySem.W.nsIn K mainGlobals "lowered" = some (some (.ref f23))) (l23 : K.lookup f23 = some ⟨oc23, od23, .func (PySem.W.fnOf "lowered" "lowered" (defArgs s_lowered) (defBody s_lowered) (defScope s_lowered) .none kV23 dc23 pm23 an23 cd23 ct23), sl23⟩) (c23 : PySem.W.codeIn K cd23 "lowered" = true) (k23 : PySem.W.keepIn K (.ref f23) = true)
    {f24 : Addr} {od24 an24 : Option Addr} {sl24 : Array (Option Value)} {oc24 kV24 dc24 pm24 ct24 : Value} {cd24 : Value}
    (a24 : PySem.W.nsIn K mainGlobals "row_alone" = some (some (.ref f24))) (l24 : K.lookup f24 = some ⟨oc24, od24, .func (PySem.W.fnOf "row_alone" "row_alone" (defArgs s_row_alone) (defBody s_row_alone) (defScope s_row_alone) .none kV24 dc24 pm24 an24 cd24 ct24), sl24⟩) (c24 : PySem.W.codeIn K cd24 "row_alone" = true) (k24 : PySem.W.keepIn K (.ref f24) = true)
    {f25 : Addr} {od25 an25 : Option Addr} {sl25 : Array (Option Value)} {oc25 kV25 dc25 pm25 ct25 : Value} {cd25 : Value}
    (a25 : PySem.W.nsIn K mainGlobals "row_served_by_last" = some (some (.ref f25))) (l25 : K.lookup f25 = some ⟨oc25, od25, .func (PySem.W.fnOf "row_served_by_last" "row_served_by_last" (defArgs s_row_served_by_last) (defBody s_row_served_by_last) (defScope s_row_served_by_last) .none kV25 dc25 pm25 an25 cd25 ct25), sl25⟩) (c25 : PySem.W.codeIn K cd25 "row_served_by_last" = true) (k25 : PySem.W.keepIn K (.ref f25) = true)
    {f26 : Addr} {od26 an26 : Option Addr} {sl26 : Array (Option Value)} {oc26 kV26 dc26 pm26 ct26 : Value} {cd26 : Value}
    (a26 : PySem.W.nsIn K mainGlobals "row_served_by_first" = some (some (.ref f26))) (l26 : K.lookup f26 = some ⟨oc26, od26, .func (PySem.W.fnOf "row_served_by_first" "row_served_by_first" (defArgs s_row_served_by_first) (defBody s_row_served_by_first) (defScope s_row_served_by_first) .none kV26 dc26 pm26 an26 cd26 ct26), sl26⟩) (c26 : PySem.W.codeIn K cd26 "row_served_by_first" = true) (k26 : PySem.W.keepIn K (.ref f26) = true)
    {f27 : Addr} {od27 an27 : Option Addr} {sl27 : Array (Option Value)} {oc27 kV27 dc27 pm27 ct27 : Value} {cd27 : Value}
    (a27 : PySem.W.nsIn K mainGlobals "row_together" = some (some (.ref f27))) (l27 : K.lookup f27 = some ⟨oc27, od27, .func (PySem.W.fnOf "row_together" "row_together" (defArgs s_row_together) (defBody s_row_together) (defScope s_row_together) .none kV27 dc27 pm27 an27 cd27 ct27), sl27⟩) (c27 : PySem.W.codeIn K cd27 "row_together" = true) (k27 : PySem.W.keepIn K (.ref f27) = true)
    {f28 : Addr} {od28 an28 : Option Addr} {sl28 : Array (Option Value)} {oc28 kV28 dc28 pm28 ct28 : Value} {cd28 : Value}
    (a28 : PySem.W.nsIn K mainGlobals "shortest_row" = some (some (.ref f28))) (l28 : K.lookup f28 = some ⟨oc28, od28, .func (PySem.W.fnOf "shortest_row" "shortest_row" (defArgs s_shortest_row) (defBody s_shortest_row) (defScope s_shortest_row) .none kV28 dc28 pm28 an28 cd28 ct28), sl28⟩) (c28 : PySem.W.codeIn K cd28 "shortest_row" = true) (k28 : PySem.W.keepIn K (.ref f28) = true)
    {f29 : Addr} {od29 an29 : Option Addr} {sl29 : Array (Option Value)} {oc29 kV29 dc29 pm29 ct29 : Value} {cd29 : Value}
    (a29 : PySem.W.nsIn K mainGlobals "need_both" = some (some (.ref f29))) (l29 : K.lookup f29 = some ⟨oc29, od29, .func (PySem.W.fnOf "need_both" "need_both" (defArgs s_need_both) (defBody s_need_both) (defScope s_need_both) .none kV29 dc29 pm29 an29 cd29 ct29), sl29⟩) (c29 : PySem.W.codeIn K cd29 "need_both" = true) (k29 : PySem.W.keepIn K (.ref f29) = true)
    {f30 : Addr} {od30 an30 : Option Addr} {sl30 : Array (Option Value)} {oc30 kV30 dc30 pm30 ct30 : Value} {cd30 : Value}
    (a30 : PySem.W.nsIn K mainGlobals "pushes_to" = some (some (.ref f30))) (l30 : K.lookup f30 = some ⟨oc30, od30, .func (PySem.W.fnOf "pushes_to" "pushes_to" (defArgs s_pushes_to) (defBody s_pushes_to) (defScope s_pushes_to) .none kV30 dc30 pm30 an30 cd30 ct30), sl30⟩) (c30 : PySem.W.codeIn K cd30 "pushes_to" = true) (k30 : PySem.W.keepIn K (.ref f30) = true)
    {f31 : Addr} {od31 an31 : Option Addr} {sl31 : Array (Option Value)} {oc31 kV31 dc31 pm31 ct31 : Value} {cd31 : Value}
    (a31 : PySem.W.nsIn K mainGlobals "copied" = some (some (.ref f31))) (l31 : K.lookup f31 = some ⟨oc31, od31, .func (PySem.W.fnOf "copied" "copied" (defArgs s_copied) (defBody s_copied) (defScope s_copied) .none kV31 dc31 pm31 an31 cd31 ct31), sl31⟩) (c31 : PySem.W.codeIn K cd31 "copied" = true) (k31 : PySem.W.keepIn K (.ref f31) = true)
    {f32 : Addr} {od32 an32 : Option Addr} {sl32 : Array (Option Value)} {oc32 kV32 dc32 pm32 ct32 : Value} {cd32 : Value}
    (a32 : PySem.W.findIn K (.ref C_Bench) "__init__" = some (some (.ref f32))) (i32 : PySem.W.isFn K (.ref f32) = true) (l32 : K.lookup f32 = some ⟨oc32, od32, .func (PySem.W.fnOf "__init__" "Bench.__init__" (defArgs s_Bench_init) (defBody s_Bench_init) (defScope s_Bench_init) .none kV32 dc32 pm32 an32 cd32 ct32), sl32⟩) (c32 : PySem.W.codeIn K cd32 "Bench.__init__" = true) (k32 : PySem.W.keepIn K (.ref f32) = true)
    {f33 : Addr} {od33 an33 : Option Addr} {sl33 : Array (Option Value)} {oc33 kV33 dc33 pm33 ct33 : Value} {cd33 : Value}
    (a33 : PySem.W.findIn K (.ref C_Bench) "push" = some (some (.ref f33))) (i33 : PySem.W.isFn K (.ref f33) = true) (l33 : K.lookup f33 = some ⟨oc33, od33, .func (PySem.W.fnOf "push" "Bench.push" (defArgs s_Bench_push) (defBody s_Bench_push) (defScope s_Bench_push) .none kV33 dc33 pm33 an33 cd33 ct33), sl33⟩) (c33 : PySem.W.codeIn K cd33 "Bench.push" = true) (k33 : PySem.W.keepIn K (.ref f33) = true)
    {f34 : Addr} {od34 an34 : Option Addr} {sl34 : Array (Option Value)} {oc34 kV34 dc34 pm34 ct34 : Value} {cd34 : Value}
    (a34 : PySem.W.findIn K (.ref C_Bench) "set_wish" = some (some (.ref f34))) (i34 : PySem.W.isFn K (.ref f34) = true) (l34 : K.lookup f34 = some ⟨oc34, od34, .func (PySem.W.fnOf "set_wish" "Bench.set_wish" (defArgs s_Bench_set_wish) (defBody s_Bench_set_wish) (defScope s_Bench_set_wish) .none kV34 dc34 pm34 an34 cd34 ct34), sl34⟩) (c34 : PySem.W.codeIn K cd34 "Bench.set_wish" = true) (k34 : PySem.W.keepIn K (.ref f34) = true)
    {f35 : Addr} {od35 an35 : Option Addr} {sl35 : Array (Option Value)} {oc35 kV35 dc35 pm35 ct35 : Value} {cd35 : Value}
    (a35 : PySem.W.findIn K (.ref C_Bench) "stand" = some (some (.ref f35))) (i35 : PySem.W.isFn K (.ref f35) = true) (l35 : K.lookup f35 = some ⟨oc35, od35, .func (PySem.W.fnOf "stand" "Bench.stand" (defArgs s_Bench_stand) (defBody s_Bench_stand) (defScope s_Bench_stand) .none kV35 dc35 pm35 an35 cd35 ct35), sl35⟩) (c35 : PySem.W.codeIn K cd35 "Bench.stand" = true) (k35 : PySem.W.keepIn K (.ref f35) = true)
    {f36 : Addr} {od36 an36 : Option Addr} {sl36 : Array (Option Value)} {oc36 kV36 dc36 pm36 ct36 : Value} {cd36 : Value}
    (a36 : PySem.W.findIn K (.ref C_Bench) "doing" = some (some (.ref f36))) (i36 : PySem.W.isFn K (.ref f36) = true) (l36 : K.lookup f36 = some ⟨oc36, od36, .func (PySem.W.fnOf "doing" "Bench.doing" (defArgs s_Bench_doing) (defBody s_Bench_doing) (defScope s_Bench_doing) .none kV36 dc36 pm36 an36 cd36 ct36), sl36⟩) (c36 : PySem.W.codeIn K cd36 "Bench.doing" = true) (k36 : PySem.W.keepIn K (.ref f36) = true)
    {f37 : Addr} {od37 an37 : Option Addr} {sl37 : Array (Option Value)} {oc37 kV37 dc37 pm37 ct37 : Value} {cd37 : Value}
    (a37 : PySem.W.findIn K (.ref C_Bench) "pushes" = some (some (.ref f37))) (i37 : PySem.W.isFn K (.ref f37) = true) (l37 : K.lookup f37 = some ⟨oc37, od37, .func (PySem.W.fnOf "pushes" "Bench.pushes" (defArgs s_Bench_pushes) (defBody s_Bench_pushes) (defScope s_Bench_pushes) .none kV37 dc37 pm37 an37 cd37 ct37), sl37⟩) (c37 : PySem.W.codeIn K cd37 "Bench.pushes" = true) (k37 : PySem.W.keepIn K (.ref f37) = true)
    {f38 : Addr} {od38 an38 : Option Addr} {sl38 : Array (Option Value)} {oc38 kV38 dc38 pm38 ct38 : Value} {cd38 : Value}
    (a38 : PySem.W.findIn K (.ref C_Bench) "fewest" = some (some (.ref f38))) (i38 : PySem.W.isFn K (.ref f38) = true) (l38 : K.lookup f38 = some ⟨oc38, od38, .func (PySem.W.fnOf "fewest" "Bench.fewest" (defArgs s_Bench_fewest) (defBody s_Bench_fewest) (defScope s_Bench_fewest) .none kV38 dc38 pm38 an38 cd38 ct38), sl38⟩) (c38 : PySem.W.codeIn K cd38 "Bench.fewest" = true) (k38 : PySem.W.keepIn K (.ref f38) = true)
    {f39 : Addr} {od39 an39 : Option Addr} {sl39 : Array (Option Value)} {oc39 kV39 dc39 pm39 ct39 : Value} {cd39 : Value}
    (a39 : PySem.W.findIn K (.ref C_Bench) "__len__" = some (some (.ref f39))) (i39 : PySem.W.isFn K (.ref f39) = true) (l39 : K.lookup f39 = some ⟨oc39, od39, .func (PySem.W.fnOf "__len__" "Bench.__len__" (defArgs s_Bench_len) (defBody s_Bench_len) (defScope s_Bench_len) .none kV39 dc39 pm39 an39 cd39 ct39), sl39⟩) (c39 : PySem.W.codeIn K cd39 "Bench.__len__" = true) (k39 : PySem.W.keepIn K (.ref f39) = true)
    {f40 : Addr} {od40 an40 : Option Addr} {sl40 : Array (Option Value)} {oc40 kV40 dc40 pm40 ct40 : Value} {cd40 : Value}
    (a40 : PySem.W.findIn K (.ref C_Bench) "__eq__" = some (some (.ref f40))) (i40 : PySem.W.isFn K (.ref f40) = true) (l40 : K.lookup f40 = some ⟨oc40, od40, .func (PySem.W.fnOf "__eq__" "Bench.__eq__" (defArgs s_Bench_eq) (defBody s_Bench_eq) (defScope s_Bench_eq) .none kV40 dc40 pm40 an40 cd40 ct40), sl40⟩) (c40 : PySem.W.codeIn K cd40 "Bench.__eq__" = true) (k40 : PySem.W.keepIn K (.ref f40) = true)
    {f41 : Addr} {od41 an41 : Option Addr} {sl41 : Array (Option Value)} {oc41 kV41 dc41 pm41 ct41 : Value} {cd41 : Value}
    (a41 : PySem.W.nsIn K mainGlobals "_law_deck" = some (some (.ref f41))) (l41 : K.lookup f41 = some ⟨oc41, od41, .func (PySem.W.fnOf "_law_deck" "_law_deck" (defArgs s_law_deck) (defBody s_law_deck) (defScope s_law_deck) .none kV41 dc41 pm41 an41 cd41 ct41), sl41⟩) (c41 : PySem.W.codeIn K cd41 "_law_deck" = true) (k41 : PySem.W.keepIn K (.ref f41) = true)
    {f42 : Addr} {od42 an42 : Option Addr} {sl42 : Array (Option Value)} {oc42 kV42 dc42 pm42 ct42 : Value} {cd42 : Value}
    (a42 : PySem.W.nsIn K mainGlobals "_law_pick" = some (some (.ref f42))) (l42 : K.lookup f42 = some ⟨oc42, od42, .func (PySem.W.fnOf "_law_pick" "_law_pick" (defArgs s_law_pick) (defBody s_law_pick) (defScope s_law_pick) .none kV42 dc42 pm42 an42 cd42 ct42), sl42⟩) (c42 : PySem.W.codeIn K cd42 "_law_pick" = true) (k42 : PySem.W.keepIn K (.ref f42) = true)
    {f43 : Addr} {od43 an43 : Option Addr} {sl43 : Array (Option Value)} {oc43 kV43 dc43 pm43 ct43 : Value} {cd43 : Value}
    (a43 : PySem.W.nsIn K mainGlobals "_law_whole" = some (some (.ref f43))) (l43 : K.lookup f43 = some ⟨oc43, od43, .func (PySem.W.fnOf "_law_whole" "_law_whole" (defArgs s_law_whole) (defBody s_law_whole) (defScope s_law_whole) .none kV43 dc43 pm43 an43 cd43 ct43), sl43⟩) (c43 : PySem.W.codeIn K cd43 "_law_whole" = true) (k43 : PySem.W.keepIn K (.ref f43) = true)
    {f44 : Addr} {od44 an44 : Option Addr} {sl44 : Array (Option Value)} {oc44 kV44 dc44 pm44 ct44 : Value} {cd44 : Value}
    (a44 : PySem.W.nsIn K mainGlobals "_law_one" = some (some (.ref f44))) (l44 : K.lookup f44 = some ⟨oc44, od44, .func (PySem.W.fnOf "_law_one" "_law_one" (defArgs s_law_one) (defBody s_law_one) (defScope s_law_one) .none kV44 dc44 pm44 an44 cd44 ct44), sl44⟩) (c44 : PySem.W.codeIn K cd44 "_law_one" = true) (k44 : PySem.W.keepIn K (.ref f44) = true)
    {f45 : Addr} {od45 an45 : Option Addr} {sl45 : Array (Option Value)} {oc45 kV45 dc45 pm45 ct45 : Value} {cd45 : Value}
    (a45 : PySem.W.nsIn K mainGlobals "_law_kin" = some (some (.ref f45))) (l45 : K.lookup f45 = some ⟨oc45, od45, .func (PySem.W.fnOf "_law_kin" "_law_kin" (defArgs s_law_kin) (defBody s_law_kin) (defScope s_law_kin) .none kV45 dc45 pm45 an45 cd45 ct45), sl45⟩) (c45 : PySem.W.codeIn K cd45 "_law_kin" = true) (k45 : PySem.W.keepIn K (.ref f45) = true)
    {f46 : Addr} {od46 an46 : Option Addr} {sl46 : Array (Option Value)} {oc46 kV46 dc46 pm46 ct46 : Value} {cd46 : Value}
    (a46 : PySem.W.nsIn K mainGlobals "_law_try" = some (some (.ref f46))) (l46 : K.lookup f46 = some ⟨oc46, od46, .func (PySem.W.fnOf "_law_try" "_law_try" (defArgs s_law_try) (defBody s_law_try) (defScope s_law_try) .none kV46 dc46 pm46 an46 cd46 ct46), sl46⟩) (c46 : PySem.W.codeIn K cd46 "_law_try" = true) (k46 : PySem.W.keepIn K (.ref f46) = true)
    {f47 : Addr} {od47 an47 : Option Addr} {sl47 : Array (Option Value)} {oc47 kV47 dc47 pm47 ct47 : Value} {cd47 : Value}
    (a47 : PySem.W.nsIn K mainGlobals "_law_sort" = some (some (.ref f47))) (l47 : K.lookup f47 = some ⟨oc47, od47, .func (PySem.W.fnOf "_law_sort" "_law_sort" (defArgs s_law_sort) (defBody s_law_sort) (defScope s_law_sort) .none kV47 dc47 pm47 an47 cd47 ct47), sl47⟩) (c47 : PySem.W.codeIn K cd47 "_law_sort" = true) (k47 : PySem.W.keepIn K (.ref f47) = true)
    {f48 : Addr} {od48 an48 : Option Addr} {sl48 : Array (Option Value)} {oc48 kV48 dc48 pm48 ct48 : Value} {cd48 : Value}
    (a48 : PySem.W.nsIn K mainGlobals "_law_same" = some (some (.ref f48))) (l48 : K.lookup f48 = some ⟨oc48, od48, .func (PySem.W.fnOf "_law_same" "_law_same" (defArgs s_law_same) (defBody s_law_same) (defScope s_law_same) .none kV48 dc48 pm48 an48 cd48 ct48), sl48⟩) (c48 : PySem.W.codeIn K cd48 "_law_same" = true) (k48 : PySem.W.keepIn K (.ref f48) = true)
    {f49 : Addr} {od49 an49 : Option Addr} {sl49 : Array (Option Value)} {oc49 kV49 dc49 pm49 ct49 : Value} {cd49 : Value}
    (a49 : PySem.W.nsIn K mainGlobals "_law_odd" = some (some (.ref f49))) (l49 : K.lookup f49 = some ⟨oc49, od49, .func (PySem.W.fnOf "_law_odd" "_law_odd" (defArgs s_law_odd) (defBody s_law_odd) (defScope s_law_odd) .none kV49 dc49 pm49 an49 cd49 ct49), sl49⟩) (c49 : PySem.W.codeIn K cd49 "_law_odd" = true) (k49 : PySem.W.keepIn K (.ref f49) = true)
    {f50 : Addr} {od50 an50 : Option Addr} {sl50 : Array (Option Value)} {oc50 kV50 dc50 pm50 ct50 : Value} {cd50 : Value}
    (a50 : PySem.W.nsIn K mainGlobals "_law_shelf" = some (some (.ref f50))) (l50 : K.lookup f50 = some ⟨oc50, od50, .func (PySem.W.fnOf "_law_shelf" "_law_shelf" (defArgs s_law_shelf) (defBody s_law_shelf) (defScope s_law_shelf) .none kV50 dc50 pm50 an50 cd50 ct50), sl50⟩) (c50 : PySem.W.codeIn K cd50 "_law_shelf" = true) (k50 : PySem.W.keepIn K (.ref f50) = true)
    {f51 : Addr} {od51 an51 : Option Addr} {sl51 : Array (Option Value)} {oc51 kV51 dc51 pm51 ct51 : Value} {cd51 : Value}
    (a51 : PySem.W.nsIn K mainGlobals "_law_play" = some (some (.ref f51))) (l51 : K.lookup f51 = some ⟨oc51, od51, .func (PySem.W.fnOf "_law_play" "_law_play" (defArgs s_law_play) (defBody s_law_play) (defScope s_law_play) .none kV51 dc51 pm51 an51 cd51 ct51), sl51⟩) (c51 : PySem.W.codeIn K cd51 "_law_play" = true) (k51 : PySem.W.keepIn K (.ref f51) = true)
    {f52 : Addr} {od52 an52 : Option Addr} {sl52 : Array (Option Value)} {oc52 kV52 dc52 pm52 ct52 : Value} {cd52 : Value}
    (a52 : PySem.W.nsIn K mainGlobals "_law_stand_of" = some (some (.ref f52))) (l52 : K.lookup f52 = some ⟨oc52, od52, .func (PySem.W.fnOf "_law_stand_of" "_law_stand_of" (defArgs s_law_stand_of) (defBody s_law_stand_of) (defScope s_law_stand_of) .none kV52 dc52 pm52 an52 cd52 ct52), sl52⟩) (c52 : PySem.W.codeIn K cd52 "_law_stand_of" = true) (k52 : PySem.W.keepIn K (.ref f52) = true)
    {f53 : Addr} {od53 an53 : Option Addr} {sl53 : Array (Option Value)} {oc53 kV53 dc53 pm53 ct53 : Value} {cd53 : Value}
    (a53 : PySem.W.nsIn K mainGlobals "_law_stand" = some (some (.ref f53))) (l53 : K.lookup f53 = some ⟨oc53, od53, .func (PySem.W.fnOf "_law_stand" "_law_stand" (defArgs s_law_stand) (defBody s_law_stand) (defScope s_law_stand) .none kV53 dc53 pm53 an53 cd53 ct53), sl53⟩) (c53 : PySem.W.codeIn K cd53 "_law_stand" = true) (k53 : PySem.W.keepIn K (.ref f53) = true)
    {f54 : Addr} {od54 an54 : Option Addr} {sl54 : Array (Option Value)} {oc54 kV54 dc54 pm54 ct54 : Value} {cd54 : Value}
    (a54 : PySem.W.nsIn K mainGlobals "_law_push" = some (some (.ref f54))) (l54 : K.lookup f54 = some ⟨oc54, od54, .func (PySem.W.fnOf "_law_push" "_law_push" (defArgs s_law_push) (defBody s_law_push) (defScope s_law_push) .none kV54 dc54 pm54 an54 cd54 ct54), sl54⟩) (c54 : PySem.W.codeIn K cd54 "_law_push" = true) (k54 : PySem.W.keepIn K (.ref f54) = true)
    {f55 : Addr} {od55 an55 : Option Addr} {sl55 : Array (Option Value)} {oc55 kV55 dc55 pm55 ct55 : Value} {cd55 : Value}
    (a55 : PySem.W.nsIn K mainGlobals "_law_pushed" = some (some (.ref f55))) (l55 : K.lookup f55 = some ⟨oc55, od55, .func (PySem.W.fnOf "_law_pushed" "_law_pushed" (defArgs s_law_pushed) (defBody s_law_pushed) (defScope s_law_pushed) .none kV55 dc55 pm55 an55 cd55 ct55), sl55⟩) (c55 : PySem.W.codeIn K cd55 "_law_pushed" = true) (k55 : PySem.W.keepIn K (.ref f55) = true)
    {f56 : Addr} {od56 an56 : Option Addr} {sl56 : Array (Option Value)} {oc56 kV56 dc56 pm56 ct56 : Value} {cd56 : Value}
    (a56 : PySem.W.nsIn K mainGlobals "_law_is_push" = some (some (.ref f56))) (l56 : K.lookup f56 = some ⟨oc56, od56, .func (PySem.W.fnOf "_law_is_push" "_law_is_push" (defArgs s_law_is_push) (defBody s_law_is_push) (defScope s_law_is_push) .none kV56 dc56 pm56 an56 cd56 ct56), sl56⟩) (c56 : PySem.W.codeIn K cd56 "_law_is_push" = true) (k56 : PySem.W.keepIn K (.ref f56) = true)
    {f57 : Addr} {od57 an57 : Option Addr} {sl57 : Array (Option Value)} {oc57 kV57 dc57 pm57 ct57 : Value} {cd57 : Value}
    (a57 : PySem.W.nsIn K mainGlobals "_law_ends" = some (some (.ref f57))) (l57 : K.lookup f57 = some ⟨oc57, od57, .func (PySem.W.fnOf "_law_ends" "_law_ends" (defArgs s_law_ends) (defBody s_law_ends) (defScope s_law_ends) .none kV57 dc57 pm57 an57 cd57 ct57), sl57⟩) (c57 : PySem.W.codeIn K cd57 "_law_ends" = true) (k57 : PySem.W.keepIn K (.ref f57) = true)
    {f58 : Addr} {od58 an58 : Option Addr} {sl58 : Array (Option Value)} {oc58 kV58 dc58 pm58 ct58 : Value} {cd58 : Value}
    (a58 : PySem.W.nsIn K mainGlobals "_law_is_stand" = some (some (.ref f58))) (l58 : K.lookup f58 = some ⟨oc58, od58, .func (PySem.W.fnOf "_law_is_stand" "_law_is_stand" (defArgs s_law_is_stand) (defBody s_law_is_stand) (defScope s_law_is_stand) .none kV58 dc58 pm58 an58 cd58 ct58), sl58⟩) (c58 : PySem.W.codeIn K cd58 "_law_is_stand" = true) (k58 : PySem.W.keepIn K (.ref f58) = true)
    {f59 : Addr} {od59 an59 : Option Addr} {sl59 : Array (Option Value)} {oc59 kV59 dc59 pm59 ct59 : Value} {cd59 : Value}
    (a59 : PySem.W.nsIn K mainGlobals "_law_bands" = some (some (.ref f59))) (l59 : K.lookup f59 = some ⟨oc59, od59, .func (PySem.W.fnOf "_law_bands" "_law_bands" (defArgs s_law_bands) (defBody s_law_bands) (defScope s_law_bands) .none kV59 dc59 pm59 an59 cd59 ct59), sl59⟩) (c59 : PySem.W.codeIn K cd59 "_law_bands" = true) (k59 : PySem.W.keepIn K (.ref f59) = true)
    {f60 : Addr} {od60 an60 : Option Addr} {sl60 : Array (Option Value)} {oc60 kV60 dc60 pm60 ct60 : Value} {cd60 : Value}
    (a60 : PySem.W.nsIn K mainGlobals "_law_fewest" = some (some (.ref f60))) (l60 : K.lookup f60 = some ⟨oc60, od60, .func (PySem.W.fnOf "_law_fewest" "_law_fewest" (defArgs s_law_fewest) (defBody s_law_fewest) (defScope s_law_fewest) .none kV60 dc60 pm60 an60 cd60 ct60), sl60⟩) (c60 : PySem.W.codeIn K cd60 "_law_fewest" = true) (k60 : PySem.W.keepIn K (.ref f60) = true)
    {f61 : Addr} {od61 an61 : Option Addr} {sl61 : Array (Option Value)} {oc61 kV61 dc61 pm61 ct61 : Value} {cd61 : Addr}
    (a61 : PySem.W.nsIn K mainGlobals "_law_do" = some (some (.ref f61))) (l61 : K.lookup f61 = some ⟨oc61, od61, .func (PySem.W.fnOf "_law_do" "_law_do" (defArgs s_law_do) (defBody s_law_do) (defScope s_law_do) .none kV61 dc61 pm61 an61 (.ref cd61) ct61), sl61⟩) (c61 : PySem.W.codeIn K (.ref cd61) "_law_do" = true) (k61 : PySem.W.keepIn K (.ref f61) = true)
    {te61 : Value} {td61 : Option Addr} {tv61 : Array Value} {ts61 : Array (Option Value)} {P61 : Addr} (tl61 : K.lookup cd61 = some ⟨te61, td61, .fields tv61, ts61⟩) (tp61 : tv61[11]? = some (.ref P61)) (tn61 : K.lookup P61 = none)
    {f62 : Addr} {od62 an62 : Option Addr} {sl62 : Array (Option Value)} {oc62 kV62 dc62 pm62 ct62 : Value} {cd62 : Value}
    (a62 : PySem.W.nsIn K mainGlobals "_law_deed" = some (some (.ref f62))) (l62 : K.lookup f62 = some ⟨oc62, od62, .func (PySem.W.fnOf "_law_deed" "_law_deed" (defArgs s_law_deed) (defBody s_law_deed) (defScope s_law_deed) .none kV62 dc62 pm62 an62 cd62 ct62), sl62⟩) (c62 : PySem.W.codeIn K cd62 "_law_deed" = true) (k62 : PySem.W.keepIn K (.ref f62) = true)
    {f63 : Addr} {od63 an63 : Option Addr} {sl63 : Array (Option Value)} {oc63 kV63 dc63 pm63 ct63 : Value} {cd63 : Value}
    (a63 : PySem.W.nsIn K mainGlobals "_law_due" = some (some (.ref f63))) (l63 : K.lookup f63 = some ⟨oc63, od63, .func (PySem.W.fnOf "_law_due" "_law_due" (defArgs s_law_due) (defBody s_law_due) (defScope s_law_due) .none kV63 dc63 pm63 an63 cd63 ct63), sl63⟩) (c63 : PySem.W.codeIn K cd63 "_law_due" = true) (k63 : PySem.W.keepIn K (.ref f63) = true)
    {f64 : Addr} {od64 an64 : Option Addr} {sl64 : Array (Option Value)} {oc64 kV64 dc64 pm64 ct64 : Value} {cd64 : Value}
    (a64 : PySem.W.nsIn K mainGlobals "_law_after" = some (some (.ref f64))) (l64 : K.lookup f64 = some ⟨oc64, od64, .func (PySem.W.fnOf "_law_after" "_law_after" (defArgs s_law_after) (defBody s_law_after) (defScope s_law_after) .none kV64 dc64 pm64 an64 cd64 ct64), sl64⟩) (c64 : PySem.W.codeIn K cd64 "_law_after" = true) (k64 : PySem.W.keepIn K (.ref f64) = true)
    {f65 : Addr} {od65 an65 : Option Addr} {sl65 : Array (Option Value)} {oc65 kV65 dc65 pm65 ct65 : Value} {cd65 : Addr}
    (a65 : PySem.W.nsIn K mainGlobals "_law_right" = some (some (.ref f65))) (l65 : K.lookup f65 = some ⟨oc65, od65, .func (PySem.W.fnOf "_law_right" "_law_right" (defArgs s_law_right) (defBody s_law_right) (defScope s_law_right) .none kV65 dc65 pm65 an65 (.ref cd65) ct65), sl65⟩) (c65 : PySem.W.codeIn K (.ref cd65) "_law_right" = true) (k65 : PySem.W.keepIn K (.ref f65) = true)
    {te65 : Value} {td65 : Option Addr} {tv65 : Array Value} {ts65 : Array (Option Value)} {P65 : Addr} (tl65 : K.lookup cd65 = some ⟨te65, td65, .fields tv65, ts65⟩) (tp65 : tv65[11]? = some (.ref P65)) (tn65 : K.lookup P65 = none)
    {f66 : Addr} {od66 an66 : Option Addr} {sl66 : Array (Option Value)} {oc66 kV66 dc66 pm66 ct66 : Value} {cd66 : Value}
    (a66 : PySem.W.nsIn K mainGlobals "law" = some (some (.ref f66))) (l66 : K.lookup f66 = some ⟨oc66, od66, .func (PySem.W.fnOf "law" "law" (defArgs s_law) (defBody s_law) (defScope s_law) .none kV66 dc66 pm66 an66 cd66 ct66), sl66⟩) (c66 : PySem.W.codeIn K cd66 "law" = true) (k66 : PySem.W.keepIn K (.ref f66) = true)
    (pne : P61 ≠ P65)
    (aC_Band : PySem.W.nsIn K mainGlobals "Band" = some (some (.ref C_Band))) (pg_Band : PySem.W.plainGet K C_Band Str.empty = true) (hd_Band : PySem.W.hasDictIn K C_Band = true) (po_Band : PySem.W.plainOver K C_Band = true) (sa_Band : PySem.W.findIn K (.ref C_Band) "__setattr__" = some (some (.builtin "object.__setattr__"))) (mk_Band : PySem.W.makesIn K C_Band = true) (kc_Band : PySem.W.keepIn K (.ref C_Band) = true)
    (na_Band_first : PySem.W.findIn K (.ref C_Band) "first" = some none)
    (na_Band_beyond : PySem.W.findIn K (.ref C_Band) "beyond" = some none)
    (na_Band_place : PySem.W.findIn K (.ref C_Band) "place" = some none)
    (na_Band_up : PySem.W.findIn K (.ref C_Band) "up" = some none)
    (na_Band_down : PySem.W.findIn K (.ref C_Band) "down" = some none)
    (aC_Bench : PySem.W.nsIn K mainGlobals "Bench" = some (some (.ref C_Bench))) (pg_Bench : PySem.W.plainGet K C_Bench Str.empty = true) (hd_Bench : PySem.W.hasDictIn K C_Bench = true) (po_Bench : PySem.W.plainOver K C_Bench = true) (sa_Bench : PySem.W.findIn K (.ref C_Bench) "__setattr__" = some (some (.builtin "object.__setattr__"))) (mk_Bench : PySem.W.makesIn K C_Bench = true) (kc_Bench : PySem.W.keepIn K (.ref C_Bench) = true)
    (na_Bench_shelf : PySem.W.findIn K (.ref C_Bench) "shelf" = some none)
    (na_Bench_now : PySem.W.findIn K (.ref C_Bench) "now" = some none)
    (na_Bench_least : PySem.W.findIn K (.ref C_Bench) "least" = some none)
    (na_Bench_greatest : PySem.W.findIn K (.ref C_Bench) "greatest" = some none)
    (na_Bench_many : PySem.W.findIn K (.ref C_Bench) "many" = some none)
    (na_Bench_wish : PySem.W.findIn K (.ref C_Bench) "wish" = some none)
    (z_ValueError : PySem.W.nsIn K mainGlobals "ValueError" = some none)
    (z_all : PySem.W.nsIn K mainGlobals "all" = some none)
    (z_bool : PySem.W.nsIn K mainGlobals "bool" = some none)
    (z_enumerate : PySem.W.nsIn K mainGlobals "enumerate" = some none)
    (z_int : PySem.W.nsIn K mainGlobals "int" = some none)
    (z_isinstance : PySem.W.nsIn K mainGlobals "isinstance" = some none)
    (z_len : PySem.W.nsIn K mainGlobals "len" = some none)
    (z_list : PySem.W.nsIn K mainGlobals "list" = some none)
    (z_max : PySem.W.nsIn K mainGlobals "max" = some none)
    (z_min : PySem.W.nsIn K mainGlobals "min" = some none)
    (z_range : PySem.W.nsIn K mainGlobals "range" = some none)
    (z_reversed : PySem.W.nsIn K mainGlobals "reversed" = some none)
    (z_sorted : PySem.W.nsIn K mainGlobals "sorted" = some none)
    (z_str : PySem.W.nsIn K mainGlobals "str" = some none)
    (z_sum : PySem.W.nsIn K mainGlobals "sum" = some none)
    (z_tuple : PySem.W.nsIn K mainGlobals "tuple" = some none)
    (z_zip : PySem.W.nsIn K mainGlobals "zip" = some none)
    {t_MOST_BLOCKS : Tok} (v_MOST_BLOCKS : PySem.W.nsIn K mainGlobals "MOST_BLOCKS" = some (some (.int 8 t_MOST_BLOCKS)))
    {t_MOST_LENGTH : Tok} (v_MOST_LENGTH : PySem.W.nsIn K mainGlobals "MOST_LENGTH" = some (some (.int 50 t_MOST_LENGTH)))
    {t_MOST_PLAY : Tok} (v_MOST_PLAY : PySem.W.nsIn K mainGlobals "MOST_PLAY" = some (some (.int 400 t_MOST_PLAY)))
    (ocn : PySem.W.specialIn K (.builtin "object.__class__") "__get__" = some (some (.builtin "getset_descriptor.__get__"))) (oct : PySem.W.takesIn K (.builtin "object.__class__") = some true)
    (xx_NoStand : PySem.W.excIn K C_NoStand exB "ValueError.__new__" = true)
    (xk_NoStand : PySem.W.keepIn K (.ref C_NoStand) = true)
    (xb_NoStand : PySem.W.subIn K (.ref C_NoStand) (.type "BaseException") = some true)
    (xt_NoStand : PySem.W.typeIn K (.ref C_NoStand) = some (.type "type"))
    (xe_NoStand : PySem.W.exmOne K (.ref C_NoStand) (.ref C_ShelfError) = some true)
    (xg_NoStand : PySem.W.findIn K (.ref C_NoStand) "__getattribute__" = some (some (.builtin "BaseException.__getattribute__")))
    (xh_NoStand : PySem.W.findIn K (.ref C_NoStand) "__getattr__" = some none)
    (xd_NoStand : PySem.W.hasDictIn K C_NoStand = true)
    (xc_NoStand : PySem.W.findIn K (.ref C_NoStand) "__class__" = some (some (.builtin "object.__class__")))
    (xm_NoStand : PySem.W.mroIn K C_NoStand (.type "object") = some true)
    (xi1_NoStand : PySem.W.kitOne K (.ref C_NoStand) (.ref C_NoShelf) = some false)
    (xi2_NoStand : PySem.W.kitOne K (.ref C_NoStand) (.ref C_NoStand) = some true)
    (xi3_NoStand : PySem.W.kitOne K (.ref C_NoStand) (.ref C_NoRow) = some false)
    (xi4_NoStand : PySem.W.kitOne K (.ref C_NoStand) (.ref C_NoDoing) = some false)
    (xi5_NoStand : PySem.W.kitOne K (.ref C_NoStand) (.ref C_NoPush) = some false)
    (xi6_NoStand : PySem.W.kitOne K (.ref C_NoStand) (.ref C_NoWish) = some false)
    (xi7_NoStand : PySem.W.kitOne K (.ref C_NoStand) (.type "ValueError") = some true)
    (xx_NoPush : PySem.W.excIn K C_NoPush exB "ValueError.__new__" = true)
    (xk_NoPush : PySem.W.keepIn K (.ref C_NoPush) = true)
    (xb_NoPush : PySem.W.subIn K (.ref C_NoPush) (.type "BaseException") = some true)
    (xt_NoPush : PySem.W.typeIn K (.ref C_NoPush) = some (.type "type"))
    (xe_NoPush : PySem.W.exmOne K (.ref C_NoPush) (.ref C_ShelfError) = some true)
    (xg_NoPush : PySem.W.findIn K (.ref C_NoPush) "__getattribute__" = some (some (.builtin "BaseException.__getattribute__")))
    (xh_NoPush : PySem.W.findIn K (.ref C_NoPush) "__getattr__" = some none)
    (xd_NoPush : PySem.W.hasDictIn K C_NoPush = true)
    (xc_NoPush : PySem.W.findIn K (.ref C_NoPush) "__class__" = some (some (.builtin "object.__class__")))
    (xm_NoPush : PySem.W.mroIn K C_NoPush (.type "object") = some true)
    (xi1_NoPush : PySem.W.kitOne K (.ref C_NoPush) (.ref C_NoShelf) = some false)
    (xi2_NoPush : PySem.W.kitOne K (.ref C_NoPush) (.ref C_NoStand) = some false)
    (xi3_NoPush : PySem.W.kitOne K (.ref C_NoPush) (.ref C_NoRow) = some false)
    (xi4_NoPush : PySem.W.kitOne K (.ref C_NoPush) (.ref C_NoDoing) = some false)
    (xi5_NoPush : PySem.W.kitOne K (.ref C_NoPush) (.ref C_NoPush) = some true)
    (xi6_NoPush : PySem.W.kitOne K (.ref C_NoPush) (.ref C_NoWish) = some false)
    (xi7_NoPush : PySem.W.kitOne K (.ref C_NoPush) (.type "ValueError") = some true)
    (xx_NoWish : PySem.W.excIn K C_NoWish exB "ValueError.__new__" = true)
    (xk_NoWish : PySem.W.keepIn K (.ref C_NoWish) = true)
    (xb_NoWish : PySem.W.subIn K (.ref C_NoWish) (.type "BaseException") = some true)
    (xt_NoWish : PySem.W.typeIn K (.ref C_NoWish) = some (.type "type"))
    (xe_NoWish : PySem.W.exmOne K (.ref C_NoWish) (.ref C_ShelfError) = some true)
    (xg_NoWish : PySem.W.findIn K (.ref C_NoWish) "__getattribute__" = some (some (.builtin "BaseException.__getattribute__")))
    (xh_NoWish : PySem.W.findIn K (.ref C_NoWish) "__getattr__" = some none)
    (xd_NoWish : PySem.W.hasDictIn K C_NoWish = true)
    (xc_NoWish : PySem.W.findIn K (.ref C_NoWish) "__class__" = some (some (.builtin "object.__class__")))
    (xm_NoWish : PySem.W.mroIn K C_NoWish (.type "object") = some true)
    (xi1_NoWish : PySem.W.kitOne K (.ref C_NoWish) (.ref C_NoShelf) = some false)
    (xi2_NoWish : PySem.W.kitOne K (.ref C_NoWish) (.ref C_NoStand) = some false)
    (xi3_NoWish : PySem.W.kitOne K (.ref C_NoWish) (.ref C_NoRow) = some false)
    (xi4_NoWish : PySem.W.kitOne K (.ref C_NoWish) (.ref C_NoDoing) = some false)
    (xi5_NoWish : PySem.W.kitOne K (.ref C_NoWish) (.ref C_NoPush) = some false)
    (xi6_NoWish : PySem.W.kitOne K (.ref C_NoWish) (.ref C_NoWish) = some true)
    (xi7_NoWish : PySem.W.kitOne K (.ref C_NoWish) (.type "ValueError") = some true)
    (bc : PySem.W.findIn K (.ref C_Bench) "__class__" = some (some (.builtin "object.__class__")))
    (bm : PySem.W.mroIn K C_Bench (.type "object") = some true)
    (bk : PySem.W.kitOne K (.type "tuple") (.ref C_Bench) = some false)
    (bn : PySem.W.notFirst K C_Bench (.type "tuple") = true)
    : LawAtS l w K L2.CX0 14 63 "script" mg fa h := by
  have e := hfa.symm.trans (PySem.W.mg_of X G a66)
  cases e
  let T : Tx K mg := {
    F_is_whole := fun_mk (st := s_is_whole) l0 c0 k0
    g_is_whole := PySem.W.mg_of X G a0
    F_is_within := fun_mk (st := s_is_within) l1 c1 k1
    g_is_within := PySem.W.mg_of X G a1
    F_is_tuple_of := fun_mk (st := s_is_tuple_of) l2 c2 k2
    g_is_tuple_of := PySem.W.mg_of X G a2
    F_are_blocks := fun_mk (st := s_are_blocks) l3 c3 k3
    g_are_blocks := PySem.W.mg_of X G a3
    F_is_shelf := fun_mk (st := s_is_shelf) l4 c4 k4
    g_is_shelf := PySem.W.mg_of X G a4
    F_need_shelf := fun_mk (st := s_need_shelf) l5 c5 k5
    g_need_shelf := PySem.W.mg_of X G a5
    F_play_of := fun_mk (st := s_play_of) l6 c6 k6
    g_play_of := PySem.W.mg_of X G a6
    F_gap_length := fun_mk (st := s_gap_length) l7 c7 k7
    g_gap_length := PySem.W.mg_of X G a7
    F_places_of := fun_mk (st := s_places_of) l8 c8 k8
    g_places_of := PySem.W.mg_of X G a8
    F_packed := fun_mk (st := s_packed) l9 c9 k9
    g_packed := PySem.W.mg_of X G a9
    F_leftmost := fun_mk (st := s_leftmost) l10 c10 k10
    g_leftmost := PySem.W.mg_of X G a10
    F_rightmost := fun_mk (st := s_rightmost) l11 c11 k11
    g_rightmost := PySem.W.mg_of X G a11
    F_is_stand := fun_mk (st := s_is_stand) l12 c12 k12
    g_is_stand := PySem.W.mg_of X G a12
    F_need_stand := fun_mk (st := s_need_stand) l13 c13 k13
    g_need_stand := PySem.W.mg_of X G a13
    F_is_gap := fun_mk (st := s_is_gap) l14 c14 k14
    g_is_gap := PySem.W.mg_of X G a14
    F_is_push := fun_mk (st := s_is_push) l15 c15 k15
    g_is_push := PySem.W.mg_of X G a15
    F_pushed_right := fun_mk (st := s_pushed_right) l16 c16 k16
    g_pushed_right := PySem.W.mg_of X G a16
    F_pushed_left := fun_mk (st := s_pushed_left) l17 c17 k17
    g_pushed_left := PySem.W.mg_of X G a17
    F_pushed := fun_mk (st := s_pushed) l18 c18 k18
    g_pushed := PySem.W.mg_of X G a18
    F_Band_init := fun_mk (st := s_Band_init) l19 c19 k19
    F_band_from := fun_mk (st := s_band_from) l20 c20 k20
    g_band_from := PySem.W.mg_of X G a20
    F_bands_of := fun_mk (st := s_bands_of) l21 c21 k21
    g_bands_of := PySem.W.mg_of X G a21
    F_raised := fun_mk (st := s_raised) l22 c22 k22
    g_raised := PySem.W.mg_of X G a22
    F_lowered := fun_mk (st := s_lowered) l23 c23 k23
    g_lowered := PySem.W.mg_of X G a23
    F_row_alone := fun_mk (st := s_row_alone) l24 c24 k24
    g_row_alone := PySem.W.mg_of X G a24
    F_row_served_by_last := fun_mk (st := s_row_served_by_last) l25 c25 k25
    g_row_served_by_last := PySem.W.mg_of X G a25
    F_row_served_by_first := fun_mk (st := s_row_served_by_first) l26 c26 k26
    g_row_served_by_first := PySem.W.mg_of X G a26
    F_row_together := fun_mk (st := s_row_together) l27 c27 k27
    g_row_together := PySem.W.mg_of X G a27
    F_shortest_row := fun_mk (st := s_shortest_row) l28 c28 k28
    g_shortest_row := PySem.W.mg_of X G a28
    F_need_both := fun_mk (st := s_need_both) l29 c29 k29
    g_need_both := PySem.W.mg_of X G a29
    F_pushes_to := fun_mk (st := s_pushes_to) l30 c30 k30
    g_pushes_to := PySem.W.mg_of X G a30
    F_copied := fun_mk (st := s_copied) l31 c31 k31
    g_copied := PySem.W.mg_of X G a31
    F_Bench_init := fun_mk (st := s_Bench_init) l32 c32 k32
    F_Bench_push := fun_mk (st := s_Bench_push) l33 c33 k33
    F_Bench_set_wish := fun_mk (st := s_Bench_set_wish) l34 c34 k34
    F_Bench_stand := fun_mk (st := s_Bench_stand) l35 c35 k35
    F_Bench_doing := fun_mk (st := s_Bench_doing) l36 c36 k36
    F_Bench_pushes := fun_mk (st := s_Bench_pushes) l37 c37 k37
    F_Bench_fewest := fun_mk (st := s_Bench_fewest) l38 c38 k38
    F_Bench_len := fun_mk (st := s_Bench_len) l39 c39 k39
    F_Bench_eq := fun_mk (st := s_Bench_eq) l40 c40 k40
    F_law_deck := fun_mk (st := s_law_deck) l41 c41 k41
    g_law_deck := PySem.W.mg_of X G a41
    F_law_pick := fun_mk (st := s_law_pick) l42 c42 k42
    g_law_pick := PySem.W.mg_of X G a42
    F_law_whole := fun_mk (st := s_law_whole) l43 c43 k43
    g_law_whole := PySem.W.mg_of X G a43
    F_law_one := fun_mk (st := s_law_one) l44 c44 k44
    g_law_one := PySem.W.mg_of X G a44
    F_law_kin := fun_mk (st := s_law_kin) l45 c45 k45
    g_law_kin := PySem.W.mg_of X G a45
    F_law_try := fun_mk (st := s_law_try) l46 c46 k46
    g_law_try := PySem.W.mg_of X G a46
    F_law_sort := fun_mk (st := s_law_sort) l47 c47 k47
    g_law_sort := PySem.W.mg_of X G a47
    F_law_same := fun_mk (st := s_law_same) l48 c48 k48
    g_law_same := PySem.W.mg_of X G a48
    F_law_odd := fun_mk (st := s_law_odd) l49 c49 k49
    g_law_odd := PySem.W.mg_of X G a49
    F_law_shelf := fun_mk (st := s_law_shelf) l50 c50 k50
    g_law_shelf := PySem.W.mg_of X G a50
    F_law_play := fun_mk (st := s_law_play) l51 c51 k51
    g_law_play := PySem.W.mg_of X G a51
    F_law_stand_of := fun_mk (st := s_law_stand_of) l52 c52 k52
    g_law_stand_of := PySem.W.mg_of X G a52
    F_law_stand := fun_mk (st := s_law_stand) l53 c53 k53
    g_law_stand := PySem.W.mg_of X G a53
    F_law_push := fun_mk (st := s_law_push) l54 c54 k54
    g_law_push := PySem.W.mg_of X G a54
    F_law_pushed := fun_mk (st := s_law_pushed) l55 c55 k55
    g_law_pushed := PySem.W.mg_of X G a55
    F_law_is_push := fun_mk (st := s_law_is_push) l56 c56 k56
    g_law_is_push := PySem.W.mg_of X G a56
    F_law_ends := fun_mk (st := s_law_ends) l57 c57 k57
    g_law_ends := PySem.W.mg_of X G a57
    F_law_is_stand := fun_mk (st := s_law_is_stand) l58 c58 k58
    g_law_is_stand := PySem.W.mg_of X G a58
    F_law_bands := fun_mk (st := s_law_bands) l59 c59 k59
    g_law_bands := PySem.W.mg_of X G a59
    F_law_fewest := fun_mk (st := s_law_fewest) l60 c60 k60
    g_law_fewest := PySem.W.mg_of X G a60
    F_law_do := fun_mk (st := s_law_do) l61 c61 k61
    g_law_do := PySem.W.mg_of X G a61
    F_law_deed := fun_mk (st := s_law_deed) l62 c62 k62
    g_law_deed := PySem.W.mg_of X G a62
    F_law_due := fun_mk (st := s_law_due) l63 c63 k63
    g_law_due := PySem.W.mg_of X G a63
    F_law_after := fun_mk (st := s_law_after) l64 c64 k64
    g_law_after := PySem.W.mg_of X G a64
    F_law_right := fun_mk (st := s_law_right) l65 c65 k65
    g_law_right := PySem.W.mg_of X G a65
    cl_Band := ⟨pg_Band, hd_Band, po_Band, sa_Band⟩
    g_Band := PySem.W.mg_of X G aC_Band
    mk_Band := ⟨mk_Band, a19, i19, kc_Band⟩
    na_Band_first := na_Band_first
    na_Band_beyond := na_Band_beyond
    na_Band_place := na_Band_place
    na_Band_up := na_Band_up
    na_Band_down := na_Band_down
    cl_Bench := ⟨pg_Bench, hd_Bench, po_Bench, sa_Bench⟩
    g_Bench := PySem.W.mg_of X G aC_Bench
    mk_Bench := ⟨mk_Bench, a32, i32, kc_Bench⟩
    me_Bench_push := ⟨a33, i33, k33⟩
    me_Bench_set_wish := ⟨a34, i34, k34⟩
    me_Bench_stand := ⟨a35, i35, k35⟩
    me_Bench_doing := ⟨a36, i36, k36⟩
    me_Bench_pushes := ⟨a37, i37, k37⟩
    me_Bench_fewest := ⟨a38, i38, k38⟩
    me_Bench_len := ⟨a39, i39, k39⟩
    me_Bench_eq := ⟨a40, i40, k40⟩
    na_Bench_shelf := na_Bench_shelf
    na_Bench_now := na_Bench_now
    na_Bench_least := na_Bench_least
    na_Bench_greatest := na_Bench_greatest
    na_Bench_many := na_Bench_many
    na_Bench_wish := na_Bench_wish
    n_ValueError := PySem.W.mg_none_of X G z_ValueError
    n_all := PySem.W.mg_none_of X G z_all
    n_bool := PySem.W.mg_none_of X G z_bool
    n_enumerate := PySem.W.mg_none_of X G z_enumerate
    n_int := PySem.W.mg_none_of X G z_int
    n_isinstance := PySem.W.mg_none_of X G z_isinstance
    n_len := PySem.W.mg_none_of X G z_len
    n_list := PySem.W.mg_none_of X G z_list
    n_max := PySem.W.mg_none_of X G z_max
    n_min := PySem.W.mg_none_of X G z_min
    n_range := PySem.W.mg_none_of X G z_range
    n_reversed := PySem.W.mg_none_of X G z_reversed
    n_sorted := PySem.W.mg_none_of X G z_sorted
    n_str := PySem.W.mg_none_of X G z_str
    n_sum := PySem.W.mg_none_of X G z_sum
    n_tuple := PySem.W.mg_none_of X G z_tuple
    n_zip := PySem.W.mg_none_of X G z_zip
    c_MOST_BLOCKS := ⟨⟨_, rfl⟩, PySem.W.mg_of X G v_MOST_BLOCKS⟩
    c_MOST_LENGTH := ⟨⟨_, rfl⟩, PySem.W.mg_of X G v_MOST_LENGTH⟩
    c_MOST_PLAY := ⟨⟨_, rfl⟩, PySem.W.mg_of X G v_MOST_PLAY⟩ }
  let U : Ux K mg := {
    g_ShelfError := PySem.W.mg_of X G aC_ShelfError
    g_NoShelf := PySem.W.mg_of X G aC_NoShelf
    g_NoStand := PySem.W.mg_of X G aC_NoStand
    g_NoRow := PySem.W.mg_of X G aC_NoRow
    g_NoDoing := PySem.W.mg_of X G aC_NoDoing
    g_NoPush := PySem.W.mg_of X G aC_NoPush
    g_NoWish := PySem.W.mg_of X G aC_NoWish
    c_NoStand := ⟨xx_NoStand, xk_NoStand, xb_NoStand, xt_NoStand, xe_NoStand, ⟨xg_NoStand, xh_NoStand, xb_NoStand, xd_NoStand, xc_NoStand, ocn, oct, xm_NoStand⟩, xi1_NoStand, xi2_NoStand, xi3_NoStand, xi4_NoStand, xi5_NoStand, xi6_NoStand, xi7_NoStand⟩
    c_NoPush := ⟨xx_NoPush, xk_NoPush, xb_NoPush, xt_NoPush, xe_NoPush, ⟨xg_NoPush, xh_NoPush, xb_NoPush, xd_NoPush, xc_NoPush, ocn, oct, xm_NoPush⟩, xi1_NoPush, xi2_NoPush, xi3_NoPush, xi4_NoPush, xi5_NoPush, xi6_NoPush, xi7_NoPush⟩
    c_NoWish := ⟨xx_NoWish, xk_NoWish, xb_NoWish, xt_NoWish, xe_NoWish, ⟨xg_NoWish, xh_NoWish, xb_NoWish, xd_NoWish, xc_NoWish, ocn, oct, xm_NoWish⟩, xi1_NoWish, xi2_NoWish, xi3_NoWish, xi4_NoWish, xi5_NoWish, xi6_NoWish, xi7_NoWish⟩ }
  have B : Bx K T.C_Bench := ⟨bc, ocn, oct, bm, bk, bn⟩
  have t0 := TQ "_law_do" cd61 P61 rq0 (tab_mk a61 l61 rfl tl61 tp61)
  have t1 := TQ "_law_right" cd65 P65 rq1 (tab_mk a65 l65 rfl tl65 tp65)
  have two : ∀ {R : Addr × Addr → Prop}, R (cd61, P61) → R (cd65, P65) → ∀ p ∈ [(cd61, P61), (cd65, P65)], R p := fun h1 h2 p hp => by
    rcases List.mem_cons.mp hp with rfl | hp
    · exact h1
    · rcases List.mem_cons.mp hp with rfl | hp
      · exact h2
      · cases hp
  refine ⟨PySem.W.fnOf "law" "law" (defArgs s_law) (defBody s_law) (defScope s_law) .none kV66 dc66 pm66 an66 cd66 ct66, [(cd61, P61), (cd65, P65)], sp_law K [(P61, qDo), (P65, qRight)], two t0.2 t1.2, two tn61 tn65, two t0.1 t1.1, fun s v => .of_eq rfl, fun H a ns hl _ hH hS => ⟨a, ns, rfl, hS, hl, ?_, fun _ => rfl⟩, fun base _ _ tb => ?_⟩
  · intro p hp
    rcases List.mem_cons.mp hp with rfl | hp
    · exact TabS.nil (hH _ List.mem_cons_self)
    · rcases List.mem_cons.mp hp with rfl | hp
      · exact TabS.nil (hH (cd65, P65) (List.mem_cons_of_mem _ List.mem_cons_self))
      · cases hp
  · exact ok_law (fun_mk (st := s_law) l66 c66 k66) T U B (L := { c1 := cd61, P1 := P61, c2 := cd65, P2 := P65, k1 := ⟨_, _, _, _, l61, rfl⟩, k2 := ⟨_, _, _, _, l65, rfl⟩, t1 := tb _ List.mem_cons_self, t2 := tb (cd65, P65) (List.mem_cons_of_mem _ List.mem_cons_self), ne := pne })
end PS
open PySem PySem.W PyProof.Rows
set_option maxHeartbeats 0 in
theorem PySem.Challenge.cw_pushshelf_k11_whole_benches_deed_by_deed_holds : PySem.Challenge.rw_pushshelf_k11_whole_benches_deed_by_deed.Holds := by
  w_on; o_law; k_head; (case hw => w_witness2)
  k_fill
  refine HT.walk_tabsQ (l := PySem.Challenge.rw_pushshelf_k11_whole_benches_deed_by_deed) (n := 63) (k := 14) (x := "script") (CX := fun _ => L2.CX0) rfl (by decide) rfl ⟨rfl, by decide, by decide⟩ (fun w h Y => PySem.W.km_in_of Y) ?F (fun _ _ _ _ _ h => h)
  case F =>
    intro w mg fa h KX G hmg TQ
    refine' PS.all_mk KX G hmg TQ ?rq0 ?rq1 ?aC_ShelfError ?aC_NoShelf ?aC_NoStand ?aC_NoRow ?aC_NoDoing ?aC_NoPush ?aC_NoWish ?a0 ?l0 ?c0 ?k0 ?a1 ?l1 ?c1 ?k1 ?a2 ?l2 ?c2 ?k2 ?a3 ?l3 ?c3 ?k3 ?a4 ?l4 ?c4 ?k4 ?a5 ?l5 ?c5 ?k5 ?a6 ?l6 ?c6 ?k6 ?a7 ?l7 ?c7 ?k7 ?a8 ?l8 ?c8 ?k8 ?a9 ?l9 ?c9 ?k9 ?a10 ?l10 ?c10 ?k10 ?a11 ?l11 ?c11 ?k11 ?a12 ?l12 ?c12 ?k12 ?a13 ?l13 ?c13 ?k13 ?a14 ?l14 ?c14 ?k14 ?a15 ?l15 ?c15 ?k15 ?a16 ?l16 ?c16 ?k16 ?a17 ?l17 ?c17 ?k17 ?a18 ?l18 ?c18 ?k18 ?a19 ?i19 ?l19 ?c19 ?k19 ?a20 ?l20 ?c20 ?k20 ?a21 ?l21 ?c21 ?k21 ?a22 ?l22 ?c22 ?k22 ?a23 ?l23 ?c23 ?k23 ?a24 ?l24 ?c24 ?k24 ?a25 ?l25 ?c25 ?k25 ?a26 ?l26 ?c26 ?k26 ?a27 ?l27 ?c27 ?k27 ?a28 ?l28 ?c28 ?k28 ?a29 ?l29 ?c29 ?k29 ?a30 ?l30 ?c30 ?k30 ?a31 ?l31 ?c31 ?k31 ?a32 ?i32 ?l32 ?c32 ?k32 ?a33 ?i33 ?l33 ?c33 ?k33 ?a34 ?i34 ?l34 ?c34 ?k34 ?a35 ?i35 ?l35 ?c35 ?k35 ?a36 ?i36 ?l36 ?c36 ?k36 ?a37 ?i37 ?l37 ?c37 ?k37 ?a38 ?i38 ?l38 ?c38 ?k38 ?a39 ?i39 ?l39 ?c39 ?k39 ?a40 ?i40 ?l40 ?c40 ?k40 ?a41 ?l41 ?c41 ?k41 ?a42 ?l42 ?c42 ?k42 ?a43 ?l43 ?c43 ?k43 ?a44 ?l44 ?c44 ?k44 ?a45 ?l45 ?c45 ?k45 ?a46 ?l46 ?c46 ?k46 ?a47 ?l47 ?c47 ?k47 ?a48 ?l48 ?c48 ?k48 ?a49 ?l49 ?c49 ?k49 ?a50 ?l50 ?c50 ?k50 ?a51 ?l51 ?c51 ?k51 ?a52 ?l52 ?c52 ?k52 ?a53 ?l53 ?c53 ?k53 ?a54 ?l54 ?c54 ?k54 ?a55 ?l55 ?c55 ?k55 ?a56 ?l56 ?c56 ?k56 ?a57 ?l57 ?c57 ?k57 ?a58 ?l58 ?c58 ?k58 ?a59 ?l59 ?c59 ?k59 ?a60 ?l60 ?c60 ?k60 ?a61 ?l61 ?c61 ?k61 ?tl61 ?tp61 ?tn61 ?a62 ?l62 ?c62 ?k62 ?a63 ?l63 ?c63 ?k63 ?a64 ?l64 ?c64 ?k64 ?a65 ?l65 ?c65 ?k65 ?tl65 ?tp65 ?tn65 ?a66 ?l66 ?c66 ?k66 ?pne ?aC_Band ?pg_Band ?hd_Band ?po_Band ?sa_Band ?mk_Band ?kc_Band ?na_Band_first ?na_Band_beyond ?na_Band_place ?na_Band_up ?na_Band_down ?aC_Bench ?pg_Bench ?hd_Bench ?po_Bench ?sa_Bench ?mk_Bench ?kc_Bench ?na_Bench_shelf ?na_Bench_now ?na_Bench_least ?na_Bench_greatest ?na_Bench_many ?na_Bench_wish ?z_ValueError ?z_all ?z_bool ?z_enumerate ?z_int ?z_isinstance ?z_len ?z_list ?z_max ?z_min ?z_range ?z_reversed ?z_sorted ?z_str ?z_sum ?z_tuple ?z_zip ?v_MOST_BLOCKS ?v_MOST_LENGTH ?v_MOST_PLAY ?ocn ?oct ?xx_NoStand ?xk_NoStand ?xb_NoStand ?xt_NoStand ?xe_NoStand ?xg_NoStand ?xh_NoStand ?xd_NoStand ?xc_NoStand ?xm_NoStand ?xi1_NoStand ?xi2_NoStand ?xi3_NoStand ?xi4_NoStand ?xi5_NoStand ?xi6_NoStand ?xi7_NoStand ?xx_NoPush ?xk_NoPush ?xb_NoPush ?xt_NoPush ?xe_NoPush ?xg_NoPush ?xh_NoPush ?xd_NoPush ?xc_NoPush ?xm_NoPush ?xi1_NoPush ?xi2_NoPush ?xi3_NoPush ?xi4_NoPush ?xi5_NoPush ?xi6_NoPush ?xi7_NoPush ?xx_NoWish ?xk_NoWish ?xb_NoWish ?xt_NoWish ?xe_NoWish ?xg_NoWish ?xh_NoWish ?xd_NoWish ?xc_NoWish ?xm_NoWish ?xi1_NoWish ?xi2_NoWish ?xi3_NoWish ?xi4_NoWish ?xi5_NoWish ?xi6_NoWish ?xi7_NoWish ?bc ?bm ?bk ?bn
    (case rq0 => first | rfl | decide +kernel | kernel_rfl); (case rq1 => first | rfl | decide +kernel | kernel_rfl); (case aC_ShelfError => k_is); (case aC_NoShelf => k_is); (case aC_NoStand => k_is); (case aC_NoRow => k_is); (case aC_NoDoing => k_is); (case aC_NoPush => k_is); (case aC_NoWish => k_is); (case aC_Band => k_is); (case aC_Bench => k_is); (case a0 => k_is); (case l0 => k_is); (case c0 => k_is); (case k0 => k_is); (case a1 => k_is); (case l1 => k_is); (case c1 => k_is); (case k1 => k_is); (case a2 => k_is); (case l2 => k_is); (case c2 => k_is); (case k2 => k_is); (case a3 => k_is); (case l3 => k_is); (case c3 => k_is); (case k3 => k_is); (case a4 => k_is); (case l4 => k_is); (case c4 => k_is); (case k4 => k_is); (case a5 => k_is); (case l5 => k_is); (case c5 => k_is); (case k5 => k_is); (case a6 => k_is); (case l6 => k_is); (case c6 => k_is); (case k6 => k_is); (case a7 => k_is); (case l7 => k_is); (case c7 => k_is); (case k7 => k_is); (case a8 => k_is); (case l8 => k_is); (case c8 => k_is); (case k8 => k_is); (case a9 => k_is); (case l9 => k_is); (case c9 => k_is); (case k9 => k_is); (case a10 => k_is); (case l10 => k_is); (case c10 => k_is); (case k10 => k_is); (case a11 => k_is); (case l11 => k_is); (case c11 => k_is); (case k11 => k_is); (case a12 => k_is); (case l12 => k_is); (case c12 => k_is); (case k12 => k_is); (case a13 => k_is); (case l13 => k_is); (case c13 => k_is); (case k13 => k_is); (case a14 => k_is); (case l14 => k_is); (case c14 => k_is); (case k14 => k_is); (case a15 => k_is); (case l15 => k_is); (case c15 => k_is); (case k15 => k_is); (case a16 => k_is); (case l16 => k_is); (case c16 => k_is); (case k16 => k_is); (case a17 => k_is); (case l17 => k_is); (case c17 => k_is); (case k17 => k_is); (case a18 => k_is); (case l18 => k_is); (case c18 => k_is); (case k18 => k_is); (case a19 => k_is); (case i19 => k_is); (case l19 => k_is); (case c19 => k_is); (case k19 => k_is); (case a20 => k_is); (case l20 => k_is); (case c20 => k_is); (case k20 => k_is); (case a21 => k_is); (case l21 => k_is); (case c21 => k_is); (case k21 => k_is); (case a22 => k_is); (case l22 => k_is); (case c22 => k_is); (case k22 => k_is); (case a23 => k_is); (case l23 => k_is); (case c23 => k_is); (case k23 => k_is); (case a24 => k_is); (case l24 => k_is); (case c24 => k_is); (case k24 => k_is); (case a25 => k_is); (case l25 => k_is); (case c25 => k_is); (case k25 => k_is); (case a26 => k_is); (case l26 => k_is); (case c26 => k_is); (case k26 => k_is); (case a27 => k_is); (case l27 => k_is); (case c27 => k_is); (case k27 => k_is); (case a28 => k_is); (case l28 => k_is); (case c28 => k_is); (case k28 => k_is); (case a29 => k_is); (case l29 => k_is); (case c29 => k_is); (case k29 => k_is); (case a30 => k_is); (case l30 => k_is); (case c30 => k_is); (case k30 => k_is); (case a31 => k_is); (case l31 => k_is); (case c31 => k_is); (case k31 => k_is); (case a32 => k_is); (case i32 => k_is); (case l32 => k_is); (case c32 => k_is); (case k32 => k_is); (case a33 => k_is); (case i33 => k_is); (case l33 => k_is); (case c33 => k_is); (case k33 => k_is); (case a34 => k_is); (case i34 => k_is); (case l34 => k_is); (case c34 => k_is); (case k34 => k_is); (case a35 => k_is); (case i35 => k_is); (case l35 => k_is); (case c35 => k_is); (case k35 => k_is); (case a36 => k_is); (case i36 => k_is); (case l36 => k_is); (case c36 => k_is); (case k36 => k_is); (case a37 => k_is); (case i37 => k_is); (case l37 => k_is); (case c37 => k_is); (case k37 => k_is); (case a38 => k_is); (case i38 => k_is); (case l38 => k_is); (case c38 => k_is); (case k38 => k_is); (case a39 => k_is); (case i39 => k_is); (case l39 => k_is); (case c39 => k_is); (case k39 => k_is); (case a40 => k_is); (case i40 => k_is); (case l40 => k_is); (case c40 => k_is); (case k40 => k_is); (case a41 => k_is); (case l41 => k_is); (case c41 => k_is); (case k41 => k_is); (case a42 => k_is); (case l42 => k_is); (case c42 => k_is); (case k42 => k_is); (case a43 => k_is); (case l43 => k_is); (case c43 => k_is); (case k43 => k_is); (case a44 => k_is); (case l44 => k_is); (case c44 => k_is); (case k44 => k_is); (case a45 => k_is); (case l45 => k_is); (case c45 => k_is); (case k45 => k_is); (case a46 => k_is); (case l46 => k_is); (case c46 => k_is); (case k46 => k_is); (case a47 => k_is); (case l47 => k_is); (case c47 => k_is); (case k47 => k_is); (case a48 => k_is); (case l48 => k_is); (case c48 => k_is); (case k48 => k_is); (case a49 => k_is); (case l49 => k_is); (case c49 => k_is); (case k49 => k_is); (case a50 => k_is); (case l50 => k_is); (case c50 => k_is); (case k50 => k_is); (case a51 => k_is); (case l51 => k_is); (case c51 => k_is); (case k51 => k_is); (case a52 => k_is); (case l52 => k_is); (case c52 => k_is); (case k52 => k_is); (case a53 => k_is); (case l53 => k_is); (case c53 => k_is); (case k53 => k_is); (case a54 => k_is); (case l54 => k_is); (case c54 => k_is); (case k54 => k_is); (case a55 => k_is); (case l55 => k_is); (case c55 => k_is); (case k55 => k_is); (case a56 => k_is); (case l56 => k_is); (case c56 => k_is); (case k56 => k_is); (case a57 => k_is); (case l57 => k_is); (case c57 => k_is); (case k57 => k_is); (case a58 => k_is); (case l58 => k_is); (case c58 => k_is); (case k58 => k_is); (case a59 => k_is); (case l59 => k_is); (case c59 => k_is); (case k59 => k_is); (case a60 => k_is); (case l60 => k_is); (case c60 => k_is); (case k60 => k_is); (case a61 => k_is); (case l61 => k_is); (case c61 => k_is); (case k61 => k_is); (case tl61 => k_is); (case tp61 => exact rfl); (case tn61 => kernel_rfl); (case a62 => k_is); (case l62 => k_is); (case c62 => k_is); (case k62 => k_is); (case a63 => k_is); (case l63 => k_is); (case c63 => k_is); (case k63 => k_is); (case a64 => k_is); (case l64 => k_is); (case c64 => k_is); (case k64 => k_is); (case a65 => k_is); (case l65 => k_is); (case c65 => k_is); (case k65 => k_is); (case tl65 => k_is); (case tp65 => exact rfl); (case tn65 => kernel_rfl); (case a66 => k_is); (case l66 => k_is); (case c66 => k_is); (case k66 => k_is); (case pne => decide); (case pg_Band => k_is); (case hd_Band => k_is); (case po_Band => k_is); (case sa_Band => k_is); (case mk_Band => k_is); (case kc_Band => k_is); (case na_Band_first => k_is); (case na_Band_beyond => k_is); (case na_Band_place => k_is); (case na_Band_up => k_is); (case na_Band_down => k_is); (case pg_Bench => k_is); (case hd_Bench => k_is); (case po_Bench => k_is); (case sa_Bench => k_is); (case mk_Bench => k_is); (case kc_Bench => k_is); (case na_Bench_shelf => k_is); (case na_Bench_now => k_is); (case na_Bench_least => k_is); (case na_Bench_greatest => k_is); (case na_Bench_many => k_is); (case na_Bench_wish => k_is); (case z_ValueError => k_is); (case z_all => k_is); (case z_bool => k_is); (case z_enumerate => k_is); (case z_int => k_is); (case z_isinstance => k_is); (case z_len => k_is); (case z_list => k_is); (case z_max => k_is); (case z_min => k_is); (case z_range => k_is); (case z_reversed => k_is); (case z_sorted => k_is); (case z_str => k_is); (case z_sum => k_is); (case z_tuple => k_is); (case z_zip => k_is); (case v_MOST_BLOCKS => k_is); (case v_MOST_LENGTH => k_is); (case v_MOST_PLAY => k_is); (case ocn => k_is); (case oct => k_is); (case xx_NoStand => k_exc); (case xk_NoStand => k_is); (case xb_NoStand => k_is); (case xt_NoStand => k_is); (case xe_NoStand => kernel_rfl); (case xg_NoStand => k_is); (case xh_NoStand => k_is); (case xd_NoStand => k_is); (case xc_NoStand => k_is); (case xm_NoStand => k_is); (case xi1_NoStand => kernel_rfl); (case xi2_NoStand => kernel_rfl); (case xi3_NoStand => kernel_rfl); (case xi4_NoStand => kernel_rfl); (case xi5_NoStand => kernel_rfl); (case xi6_NoStand => kernel_rfl); (case xi7_NoStand => kernel_rfl); (case xx_NoPush => k_exc); (case xk_NoPush => k_is); (case xb_NoPush => k_is); (case xt_NoPush => k_is); (case xe_NoPush => kernel_rfl); (case xg_NoPush => k_is); (case xh_NoPush => k_is); (case xd_NoPush => k_is); (case xc_NoPush => k_is); (case xm_NoPush => k_is); (case xi1_NoPush => kernel_rfl); (case xi2_NoPush => kernel_rfl); (case xi3_NoPush => kernel_rfl); (case xi4_NoPush => kernel_rfl); (case xi5_NoPush => kernel_rfl); (case xi6_NoPush => kernel_rfl); (case xi7_NoPush => kernel_rfl); (case xx_NoWish => k_exc); (case xk_NoWish => k_is); (case xb_NoWish => k_is); (case xt_NoWish => k_is); (case xe_NoWish => kernel_rfl); (case xg_NoWish => k_is); (case xh_NoWish => k_is); (case xd_NoWish => k_is); (case xc_NoWish => k_is); (case xm_NoWish => k_is); (case xi1_NoWish => kernel_rfl); (case xi2_NoWish => kernel_rfl); (case xi3_NoWish => kernel_rfl); (case xi4_NoWish => kernel_rfl); (case xi5_NoWish => kernel_rfl); (case xi6_NoWish => kernel_rfl); (case xi7_NoWish => kernel_rfl); (case bc => k_is); (case bm => k_is); (case bk => kernel_rfl); (case bn => k_is)



import PyProof.Rows.All
import Wide.All
import OpenK.AllK
import Wide.FinOn
import HandS.ForMost
import HandS.IsInst
import HandS.TupAny
import HandS.RevRange
import HandS.Walk
import HandS.Zip
import HandS.SortInts
import KE.GoesNew
import KE.DataEq
import HandS.Deep
import HandS.TupMul
import HandS.HotCalls
import HandS.Iter
import HandS.Comp
import HandS.ExcIs
import PyProof.ZipIter
import HandS.Lambda
import HandS.EndTab
import HandS.WordsExc
import HandS.OwnEq
import HandS.Text
import HandS.Style
import PySem.Challenge.RW_pushshelf_k12_what_is_refused
set_option Elab.async false
set_option linter.all false
set_option maxRecDepth 100000
set_option maxHeartbeats 8000000
namespace PS
open PySem PySem.Spec PyProof.Rows L2

/-! ### lists and tuples at once -/
def SqK (b : Bool) (K : PySem.W.Frag) (H : Hp) (a : Addr) (xs : List V) : Prop := match b with
  | true => SqL K H a xs
  | false => SqT K H a xs
def IsK (b : Bool) (h : Heap) (a : Addr) (its : Array Value) : Prop := match b with
  | true => h.IsList a its
  | false => h.IsTuple a its
def ItK (b : Bool) (h : Heap) (it a : Addr) (i : Nat) : Prop := match b with
  | true => h.IsListIter it a i
  | false => h.IsTupleIter it a i
def itO (b : Bool) (a : Addr) : Obj := match b with
  | true => { cls := .type "list_iterator", data := .fields #[.ref a, .int 0 0] }
  | false => { cls := .type "tuple_iterator", data := .fields #[.ref a, .int 0 0] }
theorem beginsK (b : Bool) (a : Addr) (its : Array Value) : Begins (.ref a) (itO b a) (fun h => IsK b h a its) := by
  cases b
  · exact begins_tuple a its
  · exact begins_list a its
theorem drawsK {prog : Program} {w : World} {A : Around} (b : Bool) (hh : A.handled = none) (it a : Addr) (hne : a ≠ it) (its : Array Value) :
    Draws prog w A it [it, a] its.size (fun i v => its[i]? = some v) (fun i h => ItK b h it a i ∧ IsK b h a its) := by
  cases b
  · exact Draws.tuple hh it a hne its
  · exact Draws.list hh it a hne its
theorem seqK {X : Cx} {pins : List (Addr × Obj)} {σ : L2.St} {H : Hp} {s : Shared} {b : Bool} {a : Addr} {xs : List V} (I : Inv X pins σ H s) (h : SqK b X.K H a xs) :
    ∃ its : List Value, Vals xs its ∧ IsK b s.heap a its.toArray ∧ a < s.heap.objs.size := by
  cases b
  · obtain ⟨its, r, p, _⟩ := I.tuple h
    exact ⟨its, r, p, p.lt⟩
  · obtain ⟨its, r, p, _⟩ := I.list h
    exact ⟨its, r, p.isList, p.lt⟩
theorem seqK_inj {X : Cx} {pins : List (Addr × Obj)} {σ : L2.St} {H : Hp} {s : Shared} {b : Bool} {a : Addr} {xs ys : List V} (I : Inv X pins σ H s) (h : SqK b X.K H a xs) (h' : SqK b X.K H a ys) : xs = ys := by
  cases b
  · exact I.tuple_inj h h'
  · exact I.list_inj h h'
theorem itK_obj {b : Bool} {h : Heap} {it a : Addr} {i : Nat} (x : ItK b h it a i) : ∃ o, h.get? it = some o ∧ ∀ v, o.data ≠ .cell v := by
  cases b
  · obtain ⟨o, e, _, d⟩ := x
    exact ⟨o, e, fun v q => by rw [d] at q; cases q⟩
  · obtain ⟨o, e, _, d⟩ := x
    exact ⟨o, e, fun v q => by rw [d] at q; cases q⟩
theorem itK_keep {b : Bool} {h h' : Heap} {it a : Addr} {i : Nat} (x : ItK b h it a i) (k : ∀ o, h.get? it = some o → h'.get? it = some o) : ItK b h' it a i := by
  cases b
  · obtain ⟨o, e, r⟩ := x
    exact ⟨o, k o e, r⟩
  · obtain ⟨o, e, r⟩ := x
    exact ⟨o, k o e, r⟩
theorem itK_new {b : Bool} {h : Heap} {it a : Addr} (e : h.get? it = some (itO b a)) : ItK b h it a 0 := by
  cases b
  · exact ⟨_, e, rfl, rfl⟩
  · exact ⟨_, e, rfl, rfl⟩

/-! ### one turn, by the library's walk of tuples -/
theorem item_of {X : Cx} {elts : List Expr} {kk : Nat} {tp : Pos} {it : Addr} {fp0 fp wr : List Addr} {n i : Nat} {Pt : Nat → Array Value → Prop} {S0 : Nat → Heap → Prop} {Mid : Nat → Addr → Heap → Prop}
    {pins : List (Addr × Obj)} {σ : L2.St} {H : Hp} {s : Shared} {E : Value → Shared → Prop} (G : WalksT X.prog X.w X.A it fp0 wr n Pt S0 Mid) (hw : ∀ b ∈ wr, b ∈ fp) (I : Inv X pins σ H s) (hf : ∀ b ∈ fp, FpOk X pins H b) (hi : i < n) (st : S0 i s.heap)
    (lt : ∀ b ∈ fp, b < s.heap.objs.size) {J : It} {tn : Nat → Heap → Prop} {xs : List V} (hP : ∀ vals, Pt i vals → Vals xs vals.toList) (hx : xs.length ≤ sizeLine)
    (hJ : ∀ T, H T = none → J.yld i H (.ref T) (upd H T (.tup xs))) (ht : ∀ h', S0 (i + 1) h' → tn (i + 1) h') :
    wpAny (model X.prog X.w) X.A (pyNext (.ref it)) (fun r s1 => ∃ u, r = some u ∧
      wpAny (model X.prog X.w) X.A (letOwnedTupleGo (.Tuple elts kk tp) (.ref it) u) (fun _ s2 => ∃ x H', Inv X pins σ H' s2 ∧ RelV x u ∧ J.yld i H x H' ∧ tn (i + 1) s2.heap ∧ ∀ b ∈ fp, H' b = none) E s1) E s := by
  refine (GoesN.ofWalksT (elts := elts) (k := kk) (pos := tp) G).goes i s _ E hi st fun v h' tk hY st' hk _ => ?_
  obtain ⟨T, vals, rfl, hT, hv, tup⟩ := hY
  have fT : H T = none := I.hok.fresh hT
  have hxs := hP vals hv
  have new : ObjOk X.prog X.w (upd H T (.tup xs)) h' T (.tup xs) := ⟨hx, vals.toList, hxs, by
    rw [show vals.toList.toArray = vals from by simp]
    exact tup⟩
  have I1 := I.turnedNew (t' := tk) (ch := fp) (fun b o hb q => hk b o (fun z => hb (hw b z)) q) hf hT new
  refine ⟨.ref T, upd H T (.tup xs), I1, rfl, hJ T fT, ht h' st', fun b hb => ?_⟩
  rw [upd_ne (Nat.ne_of_lt (Nat.lt_of_lt_of_le (lt b hb) hT))]
  exact (hf b hb).1
theorem done_of {X : Cx} {it : Addr} {fp0 fp wr : List Addr} {n : Nat} {Pt : Nat → Array Value → Prop} {S0 : Nat → Heap → Prop} {Mid : Nat → Addr → Heap → Prop}
    {pins : List (Addr × Obj)} {σ : L2.St} {H : Hp} {s : Shared} {E : Value → Shared → Prop} (G : WalksT X.prog X.w X.A it fp0 wr n Pt S0 Mid) (hw : ∀ b ∈ wr, b ∈ fp) (I : Inv X pins σ H s) (hf : ∀ b ∈ fp, FpOk X pins H b) (st : S0 n s.heap) :
    wpAny (model X.prog X.w) X.A (pyNext (.ref it)) (fun r s1 => r = none ∧ Inv X pins σ H s1) E s :=
  (GoesN.ofWalksT (elts := []) (k := 0) (pos := ⟨0, 0, 0, 0⟩) G).stops s (fun s1 => Inv X pins σ H s1) E st fun h' tk hk _ => I.turnedL (ch := fp) (fun b o hb q => hk b o (fun z => hb (hw b z)) q) hf

/-! ### zip of two, of three; enumerate: each of lists or tuples -/
def It2 (b1 b2 : Bool) (K : PySem.W.Frag) (a1 a2 : Addr) : It where
  go := fun i H => ∃ (xs ys : List V) (x y : V), SqK b1 K H a1 xs ∧ SqK b2 K H a2 ys ∧ xs[i]? = some x ∧ ys[i]? = some y
  yld := fun i H v H' => ∃ T x y, v = .ref T ∧ H T = none ∧ H' = upd H T (.tup [x, y]) ∧ (∀ xs, SqK b1 K H a1 xs → xs[i]? = some x) ∧ ∀ ys, SqK b2 K H a2 ys → ys[i]? = some y
  stop := fun i H => ∃ xs ys : List V, SqK b1 K H a1 xs ∧ SqK b2 K H a2 ys ∧ i = min xs.length ys.length
theorem mem5 {c z t o i j : Addr} (h : c ∈ [z, t, o, i, j]) : c = z ∨ c = t ∨ c = o ∨ c = i ∨ c = j := by simpa using h
theorem mem6 {c z t o i j k : Addr} (h : c ∈ [z, t, o, i, j, k]) : c = z ∨ c = t ∨ c = o ∨ c = i ∨ c = j ∨ c = k := by simpa using h
abbrev T2 (b1 b2 : Bool) (a1 a2 N : Addr) (i : Nat) (h : Heap) : Prop := IsZip h (N + 4) (N + 2) (N + 3) .none ∧ IsTupOf2 h (N + 2) (.ref N) (.ref (N + 1)) ∧ (∃ u v, IsTupOf2 h (N + 3) u v) ∧ ItK b1 h N a1 i ∧ ItK b2 h (N + 1) a2 i
theorem turn_2 {P : Program} {w : World} {K : PySem.W.Frag} {elts : List Expr} {kk : Nat} {tp : Pos} {b1 b2 : Bool} {a1 a2 N : Addr} (l1 : a1 < N) (l2 : a2 < N) :
    Turn P w K (.Tuple elts kk tp) (It2 b1 b2 K a1 a2) [N + 4, N + 2, N + 3, N, N + 1] (N + 4) (T2 b1 b2 a1 a2 N) where
  mem := by simp
  obj := fun i h st c hc => by
    obtain ⟨z1, z2, ⟨u, v, z3⟩, z4, z5⟩ := st
    rcases mem5 hc with q | q | q | q | q <;> rw [q]
    · exact ⟨_, z1, fun v q => nomatch q⟩
    · exact ⟨_, z2, fun v q => nomatch q⟩
    · exact ⟨_, z3, fun v q => nomatch q⟩
    · exact itK_obj z4
    · exact itK_obj z5
  keep := fun i h h' st k => by
    obtain ⟨z1, z2, ⟨u, v, z3⟩, z4, z5⟩ := st
    exact ⟨k _ (by simp) _ z1, k _ (by simp) _ z2, ⟨u, v, k _ (by simp) _ z3⟩, itK_keep z4 fun o e => k _ (by simp) o e, itK_keep z5 fun o e => k _ (by simp) o e⟩
  item := by
    intro X hP hw hK hc i pins s σ H E I hf st hg
    subst hP hw hK
    obtain ⟨xs, ys, x, y, q1, q2, e1, e2⟩ := hg
    obtain ⟨us, r1, p1, m1⟩ := seqK I q1
    obtain ⟨ws, r2, p2, m2⟩ := seqK I q2
    obtain ⟨u, g1, v1⟩ := r1.get e1
    obtain ⟨v, g2, v2⟩ := r2.get e2
    obtain ⟨z1, z2, z3, z4, z5⟩ := st
    have D1 := drawsK (prog := X.prog) (w := X.w) (A := X.A.in1) b1 (I.ok.hd hc) N a1 (Nat.ne_of_lt l1) us.toArray
    have D2 := drawsK (prog := X.prog) (w := X.w) (A := X.A.in1) b2 (I.ok.hd hc) (N + 1) a2 (Nat.ne_of_lt (Nat.lt_succ_of_lt l2)) ws.toArray
    have S := zip_sep2 (N := N) (fp1 := [a1]) (fp2 := [a2]) (by simpa using l1) (by simpa using l2)
    have n1 : i < us.length := (List.getElem?_eq_some_iff.mp g1).1
    have n2 : i < ws.length := (List.getElem?_eq_some_iff.mp g2).1
    have lt : ∀ c ∈ [N + 4, N + 2, N + 3, N, N + 1], c < s.heap.objs.size := fun c hc' => by
      obtain ⟨u', v', z3⟩ := z3
      rcases mem5 hc' with q | q | q | q | q <;> rw [q]
      · exact Heap.lt_size z1
      · exact Heap.lt_size z2
      · exact Heap.lt_size z3
      · obtain ⟨o, e, _⟩ := itK_obj z4; exact Heap.lt_size e
      · obtain ⟨o, e, _⟩ := itK_obj z5; exact Heap.lt_size e
    refine item_of (xs := [x, y]) (WalksT.zipD2 S D1 D2) (by simp) I hf (by simp; omega) ⟨z1, z2, z3, ⟨z4, p1⟩, ⟨z5, p2⟩⟩ lt (fun vals hv => ?_) (by show 2 ≤ sizeLine; decide) (fun T fT => ?_) (fun h' t => ?_)
    · obtain ⟨x', y', h1, h2, rfl⟩ := hv
      simp only [List.getElem?_toArray] at h1 h2
      rw [g1] at h1; rw [g2] at h2
      cases h1; cases h2
      exact .cons v1 (.cons v2 .nil)
    · exact ⟨T, x, y, rfl, fT, rfl, fun l hl => by rw [seqK_inj I hl q1]; exact e1, fun l hl => by rw [seqK_inj I hl q2]; exact e2⟩
    · exact ⟨t.1, t.2.1, t.2.2.1, t.2.2.2.1.1, t.2.2.2.2.1⟩
  done := by
    intro X hP hw hK hc i pins s σ H E I hf st hg
    subst hP hw hK
    obtain ⟨xs, ys, q1, q2, e⟩ := hg
    obtain ⟨us, r1, p1, m1⟩ := seqK I q1
    obtain ⟨ws, r2, p2, m2⟩ := seqK I q2
    obtain ⟨z1, z2, z3, z4, z5⟩ := st
    have D1 := drawsK (prog := X.prog) (w := X.w) (A := X.A.in1) b1 (I.ok.hd hc) N a1 (Nat.ne_of_lt l1) us.toArray
    have D2 := drawsK (prog := X.prog) (w := X.w) (A := X.A.in1) b2 (I.ok.hd hc) (N + 1) a2 (Nat.ne_of_lt (Nat.lt_succ_of_lt l2)) ws.toArray
    have S := zip_sep2 (N := N) (fp1 := [a1]) (fp2 := [a2]) (by simpa using l1) (by simpa using l2)
    have en : i = min us.toArray.size ws.toArray.size := by
      have := r1.length
      have := r2.length
      simp only [List.size_toArray]
      omega
    subst en
    exact done_of (WalksT.zipD2 S D1 D2) (by simp) I hf ⟨z1, z2, z3, ⟨z4, p1⟩, ⟨z5, p2⟩⟩
  self := fun A i s Q E st h => wpAny_pyIter_zip st.1 h

/-- what zip(e, e2) asks: the kinds of both -/
def iZip2 (b1 b2 : Bool) (K : PySem.W.Frag) (ta : TA) : TI := fun σ H R => ta σ H fun vs H1 => ∃ a1 a2 xs ys, vs = [.ref a1, .ref a2] ∧ SqK b1 K H1 a1 xs ∧ SqK b2 K H1 a2 ys ∧ R (It2 b1 b2 K a1 a2) H1
theorem fpNew {X : Cx} {pins : List (Addr × Obj)} {σ : L2.St} {H : Hp} {s : Shared} {c : Addr} (I : Inv X pins σ H s) (h : s.heap.objs.size ≤ c) : FpOk X pins H c := I.fpOk h (I.hok.fresh h)
theorem pi_zip2 {X : Cx} {e e2 : Expr} {ta : TA} {p pos tpos : Pos} {elts : List Expr} {kk : Nat} (b1 b2 : Bool) (hg : Gl X "zip") (hm : X.mg "zip" = none) (ha : PA X [e, e2] ta)
    (hs : starEach [e, e2] X.env = (false, eval e X.env) :: starEach [e2] X.env := by rfl) (hpl : (backTo pos (starEach [e2] X.env)).any (·.1) = false := by rfl) :
    PI X (.Tuple elts kk tpos) (.Call (.Name "zip" p) [e, e2] [] pos) (iZip2 b1 b2 X.K ta) := by
  constructor
  intro pins s σ H R I h
  refine Call_ ?_
  refine ld_blt I hg hm PyProof.Rows.boot_zip ?_
  refine PyProof.Rows.callWith_type1 (thn (ha.run pos pins s σ H _ I h) ?_) hs hpl
  rintro us s1 ⟨vs, H1, I1, r1, a1, a2, xs, ys, rfl, q1, q2, q⟩
  obtain ⟨u1, u2, rfl, e1, e2⟩ := vals2 r1
  cases e1; cases e2
  obtain ⟨us, w1, p1, m1⟩ := seqK I1 q1
  obtain ⟨ws, w2, p2, m2⟩ := seqK I1 q2
  refine zip_begins2 (beginsK b1 a1 us.toArray) (beginsK b2 a2 ws.toArray) p1 p2 fun h' c1 c2 c3 c4 c5 _ hk => wpAny_pyIter_zip c1 ?_
  refine ⟨_, _, _, _, H1, rfl, I1.kept (t' := s1.toks) hk, turn_2 (b1 := b1) (b2 := b2) m1 m2, ⟨c1, c2, ⟨_, _, c3⟩, itK_new c4, itK_new c5⟩, fun c hc => ?_, q⟩
  refine fpNew I1 ?_
  rcases mem5 hc with z | z | z | z | z <;> rw [z] <;> first | exact Nat.le_refl _ | exact Nat.le_add_right _ _

def It3 (b1 b2 b3 : Bool) (K : PySem.W.Frag) (a1 a2 a3 : Addr) : It where
  go := fun i H => ∃ (xs ys zs : List V) (x y z : V), SqK b1 K H a1 xs ∧ SqK b2 K H a2 ys ∧ SqK b3 K H a3 zs ∧ xs[i]? = some x ∧ ys[i]? = some y ∧ zs[i]? = some z
  yld := fun i H v H' => ∃ T x y z, v = .ref T ∧ H T = none ∧ H' = upd H T (.tup [x, y, z]) ∧ (∀ xs, SqK b1 K H a1 xs → xs[i]? = some x) ∧ (∀ ys, SqK b2 K H a2 ys → ys[i]? = some y) ∧ ∀ zs, SqK b3 K H a3 zs → zs[i]? = some z
  stop := fun i H => ∃ xs ys zs : List V, SqK b1 K H a1 xs ∧ SqK b2 K H a2 ys ∧ SqK b3 K H a3 zs ∧ i = min (min xs.length ys.length) zs.length
abbrev T3 (b1 b2 b3 : Bool) (a1 a2 a3 N : Addr) (i : Nat) (h : Heap) : Prop := IsZip h (N + 5) (N + 3) (N + 4) .none ∧ IsTupOf3 h (N + 3) (.ref N) (.ref (N + 1)) (.ref (N + 2)) ∧ (∃ u v z, IsTupOf3 h (N + 4) u v z) ∧ ItK b1 h N a1 i ∧ ItK b2 h (N + 1) a2 i ∧ ItK b3 h (N + 2) a3 i
theorem turn_3 {P : Program} {w : World} {K : PySem.W.Frag} {elts : List Expr} {kk : Nat} {tp : Pos} {b1 b2 b3 : Bool} {a1 a2 a3 N : Addr} (l1 : a1 < N) (l2 : a2 < N) (l3 : a3 < N) :
    Turn P w K (.Tuple elts kk tp) (It3 b1 b2 b3 K a1 a2 a3) [N + 5, N + 3, N + 4, N, N + 1, N + 2] (N + 5) (T3 b1 b2 b3 a1 a2 a3 N) where
  mem := by simp
  obj := fun i h st c hc => by
    obtain ⟨z1, z2, ⟨u, v, t, z3⟩, z4, z5, z6⟩ := st
    rcases mem6 hc with q | q | q | q | q | q <;> rw [q]
    · exact ⟨_, z1, fun v q => nomatch q⟩
    · exact ⟨_, z2, fun v q => nomatch q⟩
    · exact ⟨_, z3, fun v q => nomatch q⟩
    · exact itK_obj z4
    · exact itK_obj z5
    · exact itK_obj z6
  keep := fun i h h' st k => by
    obtain ⟨z1, z2, ⟨u, v, t, z3⟩, z4, z5, z6⟩ := st
    exact ⟨k _ (by simp) _ z1, k _ (by simp) _ z2, ⟨u, v, t, k _ (by simp) _ z3⟩, itK_keep z4 fun o e => k _ (by simp) o e, itK_keep z5 fun o e => k _ (by simp) o e, itK_keep z6 fun o e => k _ (by simp) o e⟩
  item := by
    intro X hP hw hK hc i pins s σ H E I hf st hg
    subst hP hw hK
    obtain ⟨xs, ys, zs, x, y, z, q1, q2, q3, e1, e2, e3⟩ := hg
    obtain ⟨us, r1, p1, m1⟩ := seqK I q1
    obtain ⟨ws, r2, p2, m2⟩ := seqK I q2
    obtain ⟨ts, r3, p3, m3⟩ := seqK I q3
    obtain ⟨u, g1, v1⟩ := r1.get e1
    obtain ⟨v, g2, v2⟩ := r2.get e2
    obtain ⟨t, g3, v3⟩ := r3.get e3
    obtain ⟨z1, z2, z3, z4, z5, z6⟩ := st
    have D1 := drawsK (prog := X.prog) (w := X.w) (A := X.A.in1) b1 (I.ok.hd hc) N a1 (Nat.ne_of_lt l1) us.toArray
    have D2 := drawsK (prog := X.prog) (w := X.w) (A := X.A.in1) b2 (I.ok.hd hc) (N + 1) a2 (Nat.ne_of_lt (Nat.lt_succ_of_lt l2)) ws.toArray
    have D3 := drawsK (prog := X.prog) (w := X.w) (A := X.A.in1) b3 (I.ok.hd hc) (N + 2) a3 (Nat.ne_of_lt (Nat.lt_succ_of_lt (Nat.lt_succ_of_lt l3))) ts.toArray
    have S := zip_sep3 (N := N) (fp1 := [a1]) (fp2 := [a2]) (fp3 := [a3]) (by simpa using l1) (by simpa using l2) (by simpa using l3)
    have n1 : i < us.length := (List.getElem?_eq_some_iff.mp g1).1
    have n2 : i < ws.length := (List.getElem?_eq_some_iff.mp g2).1
    have n3 : i < ts.length := (List.getElem?_eq_some_iff.mp g3).1
    have lt : ∀ c ∈ [N + 5, N + 3, N + 4, N, N + 1, N + 2], c < s.heap.objs.size := fun c hc' => by
      obtain ⟨u', v', t', z3⟩ := z3
      rcases mem6 hc' with q | q | q | q | q | q <;> rw [q]
      · exact Heap.lt_size z1
      · exact Heap.lt_size z2
      · exact Heap.lt_size z3
      · obtain ⟨o, e, _⟩ := itK_obj z4; exact Heap.lt_size e
      · obtain ⟨o, e, _⟩ := itK_obj z5; exact Heap.lt_size e
      · obtain ⟨o, e, _⟩ := itK_obj z6; exact Heap.lt_size e
    refine item_of (xs := [x, y, z]) (WalksT.zipD3 S D1 D2 D3) (by simp) I hf (by simp; omega) ⟨z1, z2, z3, ⟨z4, p1⟩, ⟨z5, p2⟩, ⟨z6, p3⟩⟩ lt (fun vals hv => ?_) (by show 3 ≤ sizeLine; decide) (fun T fT => ?_) (fun h' t => ?_)
    · obtain ⟨x', y', z', h1, h2, h3, rfl⟩ := hv
      simp only [List.getElem?_toArray] at h1 h2 h3
      rw [g1] at h1; rw [g2] at h2; rw [g3] at h3
      cases h1; cases h2; cases h3
      exact .cons v1 (.cons v2 (.cons v3 .nil))
    · exact ⟨T, x, y, z, rfl, fT, rfl, fun l hl => by rw [seqK_inj I hl q1]; exact e1, fun l hl => by rw [seqK_inj I hl q2]; exact e2, fun l hl => by rw [seqK_inj I hl q3]; exact e3⟩
    · exact ⟨t.1, t.2.1, t.2.2.1, t.2.2.2.1.1, t.2.2.2.2.1.1, t.2.2.2.2.2.1⟩
  done := by
    intro X hP hw hK hc i pins s σ H E I hf st hg
    subst hP hw hK
    obtain ⟨xs, ys, zs, q1, q2, q3, e⟩ := hg
    obtain ⟨us, r1, p1, m1⟩ := seqK I q1
    obtain ⟨ws, r2, p2, m2⟩ := seqK I q2
    obtain ⟨ts, r3, p3, m3⟩ := seqK I q3
    obtain ⟨z1, z2, z3, z4, z5, z6⟩ := st
    have D1 := drawsK (prog := X.prog) (w := X.w) (A := X.A.in1) b1 (I.ok.hd hc) N a1 (Nat.ne_of_lt l1) us.toArray
    have D2 := drawsK (prog := X.prog) (w := X.w) (A := X.A.in1) b2 (I.ok.hd hc) (N + 1) a2 (Nat.ne_of_lt (Nat.lt_succ_of_lt l2)) ws.toArray
    have D3 := drawsK (prog := X.prog) (w := X.w) (A := X.A.in1) b3 (I.ok.hd hc) (N + 2) a3 (Nat.ne_of_lt (Nat.lt_succ_of_lt (Nat.lt_succ_of_lt l3))) ts.toArray
    have S := zip_sep3 (N := N) (fp1 := [a1]) (fp2 := [a2]) (fp3 := [a3]) (by simpa using l1) (by simpa using l2) (by simpa using l3)
    have en : i = min (min us.toArray.size ws.toArray.size) ts.toArray.size := by
      have := r1.length
      have := r2.length
      have := r3.length
      simp only [List.size_toArray]
      omega
    subst en
    exact done_of (WalksT.zipD3 S D1 D2 D3) (by simp) I hf ⟨z1, z2, z3, ⟨z4, p1⟩, ⟨z5, p2⟩, ⟨z6, p3⟩⟩
  self := fun A i s Q E st h => wpAny_pyIter_zip st.1 h
def iZip3 (b1 b2 b3 : Bool) (K : PySem.W.Frag) (ta : TA) : TI := fun σ H R => ta σ H fun vs H1 => ∃ a1 a2 a3 xs ys zs, vs = [.ref a1, .ref a2, .ref a3] ∧ SqK b1 K H1 a1 xs ∧ SqK b2 K H1 a2 ys ∧ SqK b3 K H1 a3 zs ∧ R (It3 b1 b2 b3 K a1 a2 a3) H1
theorem vals3 {a b c : V} {us : List Value} (r : Vals [a, b, c] us) : ∃ x y z, us = [x, y, z] ∧ RelV a x ∧ RelV b y ∧ RelV c z := by
  cases r with
  | cons r1 rr =>
    obtain ⟨y, z, rfl, h1, h2⟩ := vals2 rr
    exact ⟨_, y, z, rfl, r1, h1, h2⟩
theorem pi_zip3 {X : Cx} {e e2 e3 : Expr} {ta : TA} {p pos tpos : Pos} {elts : List Expr} {kk : Nat} (b1 b2 b3 : Bool) (hg : Gl X "zip") (hm : X.mg "zip" = none) (ha : PA X [e, e2, e3] ta)
    (hs : starEach [e, e2, e3] X.env = (false, eval e X.env) :: starEach [e2, e3] X.env := by rfl) (hpl : (backTo pos (starEach [e2, e3] X.env)).any (·.1) = false := by rfl) :
    PI X (.Tuple elts kk tpos) (.Call (.Name "zip" p) [e, e2, e3] [] pos) (iZip3 b1 b2 b3 X.K ta) := by
  constructor
  intro pins s σ H R I h
  refine Call_ ?_
  refine ld_blt I hg hm PyProof.Rows.boot_zip ?_
  refine PyProof.Rows.callWith_type1 (thn (ha.run pos pins s σ H _ I h) ?_) hs hpl
  rintro us s1 ⟨vs, H1, I1, r1, a1, a2, a3, xs, ys, zs, rfl, q1, q2, q3, q⟩
  obtain ⟨u1, u2, u3, rfl, e1, e2, e3⟩ := vals3 r1
  cases e1; cases e2; cases e3
  obtain ⟨us, w1, p1, m1⟩ := seqK I1 q1
  obtain ⟨ws, w2, p2, m2⟩ := seqK I1 q2
  obtain ⟨ts, w3, p3, m3⟩ := seqK I1 q3
  refine zip_begins3 (beginsK b1 a1 us.toArray) (beginsK b2 a2 ws.toArray) (beginsK b3 a3 ts.toArray) p1 p2 p3 fun h' c1 c2 c3 c4 c5 c6 _ hk => wpAny_pyIter_zip c1 ?_
  refine ⟨_, _, _, _, H1, rfl, I1.kept (t' := s1.toks) hk, turn_3 (b1 := b1) (b2 := b2) (b3 := b3) m1 m2 m3, ⟨c1, c2, ⟨_, _, _, c3⟩, itK_new c4, itK_new c5, itK_new c6⟩, fun c hc => ?_, q⟩
  refine fpNew I1 ?_
  rcases mem6 hc with z | z | z | z | z | z <;> rw [z] <;> first | exact Nat.le_refl _ | exact Nat.le_add_right _ _

/-! ### enumerate of a list or a tuple -/
def It1 (b : Bool) (K : PySem.W.Frag) (a : Addr) : It where
  go := fun i H => ∃ (xs : List V) (x : V), SqK b K H a xs ∧ xs[i]? = some x
  yld := fun i H v H' => ∃ T x, v = .ref T ∧ H T = none ∧ H' = upd H T (.tup [.int (i : Nat), x]) ∧ ∀ xs, SqK b K H a xs → xs[i]? = some x
  stop := fun i H => ∃ xs : List V, SqK b K H a xs ∧ i = xs.length
abbrev T1 (b : Bool) (a N : Addr) (i : Nat) (h : Heap) : Prop := (∃ old, IsEnum h (N + 1) N (0 + (i : Int)) old) ∧ ItK b h N a i
theorem turn_1 {P : Program} {w : World} {K : PySem.W.Frag} {elts : List Expr} {kk : Nat} {tp : Pos} {b : Bool} {a N : Addr} (l1 : a < N) :
    Turn P w K (.Tuple elts kk tp) (It1 b K a) [N + 1, N] (N + 1) (T1 b a N) where
  mem := by simp
  obj := fun i h st c hc => by
    obtain ⟨⟨old, z1⟩, z2⟩ := st
    have hc' : c = N + 1 ∨ c = N := by simpa using hc
    rcases hc' with q | q <;> rw [q]
    · exact ⟨_, z1, fun v q => nomatch q⟩
    · exact itK_obj z2
  keep := fun i h h' st k => by
    obtain ⟨⟨old, z1⟩, z2⟩ := st
    exact ⟨⟨old, k _ (by simp) _ z1⟩, itK_keep z2 fun o e => k _ (by simp) o e⟩
  item := by
    intro X hP hw hK hc i pins s σ H E I hf st hg
    subst hP hw hK
    obtain ⟨xs, x, q1, e1⟩ := hg
    obtain ⟨us, r1, p1, m1⟩ := seqK I q1
    obtain ⟨u, g1, v1⟩ := r1.get e1
    obtain ⟨z1, z2⟩ := st
    have D1 := drawsK (prog := X.prog) (w := X.w) (A := X.A.in1) b (I.ok.hd hc) N a (Nat.ne_of_lt l1) us.toArray
    have n1 : i < us.length := (List.getElem?_eq_some_iff.mp g1).1
    have lt : ∀ c ∈ [N + 1, N], c < s.heap.objs.size := fun c hc' => by
      obtain ⟨old, z1⟩ := z1
      have hc' : c = N + 1 ∨ c = N := by simpa using hc'
      rcases hc' with q | q <;> rw [q]
      · exact Heap.lt_size z1
      · obtain ⟨o, e, _⟩ := itK_obj z2; exact Heap.lt_size e
    have W := WalksT.enumFrom 0 D1 (N + 1) (Nat.ne_of_gt (Nat.lt_succ_self N)) (by
      intro hm
      have hm' : N + 1 = N ∨ N + 1 = a := by simpa using hm
      rcases hm' with q | q
      · exact absurd q (Nat.ne_of_gt (Nat.lt_succ_self N))
      · exact absurd q.symm (Nat.ne_of_lt (Nat.lt_succ_of_lt l1))) (by simp)
    refine item_of (xs := [.int (i : Nat), x]) W (by simp) I hf (by simpa using n1) ⟨z1, ⟨z2, p1⟩⟩ lt (fun vals hv => ?_) (by show 2 ≤ sizeLine; decide) (fun T fT => ?_) (fun h' t => ?_)
    · obtain ⟨t, x', h1, rfl⟩ := hv
      simp only [List.getElem?_toArray] at h1
      rw [g1] at h1
      cases h1
      exact .cons ⟨t, by rw [Int.zero_add]⟩ (.cons v1 .nil)
    · exact ⟨T, x, rfl, fT, rfl, fun l hl => by rw [seqK_inj I hl q1]; exact e1⟩
    · exact ⟨t.1, t.2.1⟩
  done := by
    intro X hP hw hK hc i pins s σ H E I hf st hg
    subst hP hw hK
    obtain ⟨xs, q1, e⟩ := hg
    obtain ⟨us, r1, p1, m1⟩ := seqK I q1
    obtain ⟨z1, z2⟩ := st
    have D1 := drawsK (prog := X.prog) (w := X.w) (A := X.A.in1) b (I.ok.hd hc) N a (Nat.ne_of_lt l1) us.toArray
    have W := WalksT.enumFrom 0 D1 (N + 1) (Nat.ne_of_gt (Nat.lt_succ_self N)) (by
      intro hm
      have hm' : N + 1 = N ∨ N + 1 = a := by simpa using hm
      rcases hm' with q | q
      · exact absurd q (Nat.ne_of_gt (Nat.lt_succ_self N))
      · exact absurd q.symm (Nat.ne_of_lt (Nat.lt_succ_of_lt l1))) (by simp)
    have en : i = us.toArray.size := by
      have := r1.length
      simp only [List.size_toArray]
      omega
    subst en
    exact done_of W (by simp) I hf ⟨z1, ⟨z2, p1⟩⟩
  self := fun A i s Q E st h => by
    obtain ⟨⟨old, z1⟩, _⟩ := st
    exact wpAny_pyIter_enum z1 h
set_option maxHeartbeats 1000000 in
theorem meets_enum1 {v : Value} {o : Obj} {H : Heap → Prop} (B : Begins v o H) :
    Meets (Builtin.«enumerate.__new__» ⟨[.type "enumerate", v], []⟩) (fun _ R s => H s.heap ∧
      R (.ok (.ret (.ref (s.heap.push o).objs.size))) { s with heap := (s.heap.push o).push ⟨.type "enumerate", none, .fields #[.none, .bool false, .ref s.heap.objs.size, rawInt 0, .none, .none], #[]⟩ }) :=
  .of_wp fun prog w A R s h => by
    obtain ⟨hp, g, d, tk, os⟩ := s
    obtain ⟨h1, h⟩ := h
    have hsub := sub_enumerate
    have q1 : ∀ {A' : Around} {E : Value → Shared → Prop} {Q : Value → Shared → Prop}, Q (.ref hp.objs.size) ⟨hp.push o, g, d, tk, os⟩ → wpAny (model prog w) A' (pyIter v) Q E ⟨hp, g, d, tk, os⟩ := by
      intro A' E Q q
      exact B.iter prog w _ _ ⟨hp, g, d, tk, os⟩ _ h1 q
    wp_walk using q1
    apply wpAny_stack_any
    intro st
    apply wpAny_pure
    split
    · rename_i c _ _ _ _ _
      cases (c == Value.type "enumerate") <;> (wp_walk using q1; exact ⟨_, rfl, h⟩)
    · wp_walk using q1
      exact ⟨_, rfl, h⟩
theorem enum_begins1 {prog : Program} {w : World} {A : Around} {E : Value → Shared → Prop} {s : Shared} {v : Value} {o : Obj} {H : Heap → Prop} {Q : Value → Shared → Prop} (B : Begins v o H) (h1 : H s.heap)
    (h : ∀ h', IsEnum h' (s.heap.objs.size + 1) s.heap.objs.size 0 .none → h'.get? s.heap.objs.size = some o → (∀ b o, s.heap.get? b = some o → h'.get? b = some o) → Q (.ref (s.heap.objs.size + 1)) { s with heap := h' }) :
    wpAny (model prog w) A (call (.type "enumerate") [v]) Q E s := by
  refine callType_new F.called_enumerate (by decide) (F.typeCall_enumerate_1 _) (F.newCall_enumerate_1 _) (fun obj => F.args_object_init_2 obj _) F.entry_enumerate_new (meets_enum1 B) ⟨h1, ?_⟩
  have hz : (s.heap.push o).objs.size = s.heap.objs.size + 1 := Heap.size_push ..
  have he := Heap.get?_push_size (s.heap.push o) (o := ⟨.type "enumerate", none, .fields #[.none, .bool false, .ref s.heap.objs.size, rawInt 0, .none, .none], #[]⟩) rfl
  rw [hz] at he
  show _ ∧ _
  rw [hz]
  exact ⟨⟨_, he, rfl⟩, h _ he (Heap.get?_push_of_some _ (Heap.get?_push_size _ B.free)) fun b o x => Heap.get?_push_of_some _ (Heap.get?_push_of_some _ x)⟩
def iEnum1 (K : PySem.W.Frag) (ta : TA) : TI := fun σ H R => ta σ H fun vs H1 => ∃ b a xs, vs = [.ref a] ∧ SqK b K H1 a xs ∧ R (It1 b K a) H1
theorem pi_enum1 {X : Cx} {e : Expr} {ta : TA} {p pos tpos : Pos} {elts : List Expr} {kk : Nat} (hg : Gl X "enumerate") (hm : X.mg "enumerate" = none) (ha : PA X [e] ta)
    (hs : starEach [e] X.env = (false, eval e X.env) :: starEach [] X.env := by rfl) (hpl : (backTo pos (starEach [] X.env)).any (·.1) = false := by rfl) :
    PI X (.Tuple elts kk tpos) (.Call (.Name "enumerate" p) [e] [] pos) (iEnum1 X.K ta) := by
  constructor
  intro pins s σ H R I h
  refine Call_ ?_
  refine ld_blt I hg hm PyProof.Rows.boot_enumerate ?_
  refine PyProof.Rows.callWith_type1 (thn (ha.run pos pins s σ H _ I h) ?_) hs hpl
  rintro us s1 ⟨vs, H1, I1, r1, b, a, xs, rfl, q1, q⟩
  obtain ⟨u1, rfl, e1⟩ := vals1 r1
  cases e1
  obtain ⟨us, w1, p1, m1⟩ := seqK I1 q1
  refine enum_begins1 (beginsK b a us.toArray) p1 fun h' c1 c2 hk => wpAny_pyIter_enum c1 ?_
  refine ⟨_, _, _, _, H1, rfl, I1.kept (t' := s1.toks) hk, turn_1 (b := b) m1, ⟨⟨_, c1⟩, itK_new c2⟩, fun c hc => ?_, q⟩
  refine fpNew I1 ?_
  have hc' : c = s1.heap.objs.size + 1 ∨ c = s1.heap.objs.size := by simpa using hc
  rcases hc' with z | z <;> rw [z] <;> first | exact Nat.le_refl _ | exact Nat.le_add_right _ _

/-! ### list + list, both read -/
def rCatL (K : PySem.W.Frag) : R2 := fun x y H Q => ∃ l b xs zs, x = .ref l ∧ y = .ref b ∧ SqL K H l xs ∧ SqL K H b zs ∧ xs.length + zs.length ≤ sizeLine ∧ ∀ p, H p = none → Q (.ref p) (upd H p (.lst (xs ++ zs)))
theorem op_catL {X : Cx} : OpR X (binaryOp .Add) (rCatL X.K) := by
  intro pins s σ H x y v u Q I rx ry h
  obtain ⟨l, b, xs, zs, rfl, rfl, h1, h2, hz, q⟩ := h
  cases rx
  cases ry
  obtain ⟨i1, r1, p1, _⟩ := I.list h1
  obtain ⟨i2, r2, p2, _⟩ := I.list h2
  have l1 := r1.length
  have l2 := r2.length
  obtain ⟨⟨c1, d1, t1, w1⟩, n1, o1, k1, g1, e1⟩ := p1
  obtain ⟨⟨c2, d2, t2, w2⟩, n2, o2, k2, g2, e2⟩ := p2
  simp only at k1 g1 e1 k2 g2 e2
  subst k1 g1 e1 k2 g2 e2
  have ea : i1.toArray ++ i2.toArray = (i1 ++ i2).toArray := by simp
  refine concat_meets ⟨_, o1, rfl⟩ ⟨_, o2, rfl⟩ noFill_list_add seq_list_add PySem.F.slot_list_add PySem.F.entry_list_add (PySem.F.args_list_add_2 _ _) (list_addW l b i1.toArray i2.toArray n1 n2 none none w1 w2 (by simp; omega)) ⟨o1, o2, ?_⟩
  rw [ea]
  exact ⟨.ref _, _, I.lnew (t' := s.toks) (r1.append r2) (by rw [List.length_append]; omega), rfl, q _ I.fresh⟩
/-! ### sum of a tuple of ints -/
def rSumT (K : PySem.W.Frag) : List V → Hp → VK → Prop := fun vs H Q => ∃ (a : Addr) (ns : List Int), vs = [V.ref a] ∧ SqT K H a (ns.map V.int) ∧ Q (.int ns.sum) H
theorem preSum_list (ns : List Int) : ∀ k, k ≤ ns.length → preSum (fun i => ns.getD i 0) k = (ns.take k).sum
  | 0, _ => by simp [preSum]
  | k + 1, h => by
    have ih := preSum_list ns k (by omega)
    have e : ns[k]? = some ns[k] := List.getElem?_eq_getElem (by omega)
    rw [sum_take e, ← ih]
    show preSum (fun i => ns.getD i 0) k + ns.getD k 0 = _
    rw [List.getD_eq_getElem?_getD, e]
    rfl
theorem cr_sumT {X : Cx} (hc : X.calm = true) : CallR X (.builtin "sum") (rSumT X.K) := by
  intro pins s σ H vs us Q I r h
  obtain ⟨a, ns, rfl, hs, q⟩ := h
  obtain ⟨its, rv, p, _⟩ := I.tuple hs
  have hlt := p.lt
  have hlen := rv.length
  rw [Vals.ref1 r]
  refine call_sum_walkG (wpAny_pyIter_tuple p ?_)
  refine ⟨_, _, _, _, _, _, fun i => ns.getD i 0, rfl, Walks.tuple (A := X.A.in1) (I.ok.hd hc) _ a (Nat.ne_of_lt hlt) its.toArray, ⟨⟨_, Heap.get?_push_size _ rfl, rfl, rfl⟩, ?_⟩, fun b hb => ?_, fun i v hv => ?_, fun h' tk t' hk => ?_⟩
  · obtain ⟨o, e, r⟩ := id p
    exact ⟨o, Heap.get?_push_of_some _ e, r⟩
  · show b < (s.heap.push _).objs.size
    rw [Heap.size_push]
    have hb' : b = s.heap.objs.size ∨ b = a := by simpa using hb
    rcases hb' with z | z <;> rw [z]
    · exact Nat.lt_succ_self _
    · exact Nat.lt_succ_of_lt hlt
  · have hv' : its[i]? = some v := by simpa using hv
    have hi : i < its.length := (List.getElem?_eq_some_iff.mp hv').1
    rw [List.length_map] at hlen
    have hn : i < ns.length := by omega
    have e : (ns.map V.int)[i]? = some (.int (ns.getD i 0)) := by
      rw [List.getElem?_map, List.getElem?_eq_getElem hn, List.getD_eq_getElem?_getD, List.getElem?_eq_getElem hn]
      rfl
    obtain ⟨u, hu, t, ru⟩ := rv.get e
    rw [hv'] at hu
    cases hu
    exact ⟨t, ru⟩
  · rw [List.length_map] at hlen
    have hk' : ∀ b o, s.heap.get? b = some o → h'.get? b = some o := fun b o e => hk b o (by
      have := Heap.lt_size e
      simp
      exact Nat.ne_of_lt this) (Heap.get?_push_of_some _ e)
    refine ⟨.int _, H, I.kept hk', ⟨t', rfl⟩, ?_⟩
    rw [List.size_toArray, ← hlen, preSum_list ns _ (Nat.le_refl _), List.take_length]
    exact q
end PS

namespace PS
open PySem PySem.Spec PyProof.Rows L2
/-! ### data in the heap -/
section
variable {K : PySem.W.Frag} {H H' : Hp}
theorem seqT_mono {a : Addr} {xs : List V} (e : Same H H') (h : SqT K H a xs) : SqT K H' a xs := by
  rcases h with (h | ⟨o, h⟩) | h
  · exact .inl (.inl (e _ _ h))
  · exact .inl (.inr ⟨o, e _ _ h⟩)
  · exact .inr h
mutual
theorem dp_mono (e : Same H H') : ∀ (d : PyData) (v : V), Dp K H v d → Dp K H' v d
  | .none, _, h => by cases h; exact .non
  | .bool b, _, h => by cases h; exact .bl b
  | .int i, _, h => by cases h; exact .int i
  | .str x, _, h => by cases h; exact .str x
  | .list ds, _, h => by
    cases h with
    | lst s a => exact .lst (e.seq s) (dpAll_mono e ds _ a)
  | .tuple ds, _, h => by
    cases h with
    | tup s a => exact .tup (seqT_mono e s) (dpAll_mono e ds _ a)
  | .dict _, _, h => by cases h
theorem dpAll_mono (e : Same H H') : ∀ (ds : List PyData) (vs : List V), DpAll K H vs ds → DpAll K H' vs ds
  | [], _, h => by cases h; exact .nil
  | d :: ds, _, h => by
    cases h with
    | cons h1 h2 => exact .cons (dp_mono e d _ h1) (dpAll_mono e ds _ h2)
end
theorem Dpm {d : PyData} {v : V} (e : Same H H') (h : Dp K H v d) : Dp K H' v d := dp_mono e d v h
theorem dpAll_len : ∀ {ds : List PyData} {vs : List V}, DpAll K H vs ds → vs.length = ds.length
  | [], _, h => by cases h; rfl
  | d :: ds, _, h => by
    cases h with
    | cons h1 h2 => simp [dpAll_len h2]
theorem dpAll_get : ∀ {ds : List PyData} {vs : List V} {i : Nat} {v : V}, DpAll K H vs ds → vs[i]? = some v → ∃ d, ds[i]? = some d ∧ Dp K H v d
  | [], _, i, v, h, e => by cases h; simp at e
  | d :: ds, _, i, v, h, e => by
    cases h with
    | cons h1 h2 =>
      cases i with
      | zero => simp at e; subst e; exact ⟨d, rfl, h1⟩
      | succ i =>
        obtain ⟨d', e1, e2⟩ := dpAll_get (i := i) (v := v) h2 (by simpa using e)
        exact ⟨d', by simpa using e1, e2⟩
theorem dpAll_at : ∀ {ds : List PyData} {vs : List V} {i : Nat} {d : PyData}, DpAll K H vs ds → ds[i]? = some d → ∃ v, vs[i]? = some v ∧ Dp K H v d
  | [], _, i, v, h, e => by simp at e
  | d :: ds, _, i, v, h, e => by
    cases h with
    | cons h1 h2 =>
      cases i with
      | zero => simp at e; subst e; exact ⟨_, rfl, h1⟩
      | succ i =>
        obtain ⟨d', e1, e2⟩ := dpAll_at (i := i) (d := v) h2 (by simpa using e)
        exact ⟨d', by simpa using e1, e2⟩
theorem dpAll_app : ∀ {ds es : List PyData} {vs us : List V}, DpAll K H vs ds → DpAll K H us es → DpAll K H (vs ++ us) (ds ++ es)
  | [], _, _, _, h, g => by cases h; exact g
  | d :: ds, _, _, _, h, g => by
    cases h with
    | cons h1 h2 => exact .cons h1 (dpAll_app h2 g)
theorem dpAll_take : ∀ {ds : List PyData} {vs : List V} (n : Nat), DpAll K H vs ds → DpAll K H (vs.take n) (ds.take n)
  | ds, vs, 0, h => by simp; exact .nil
  | [], _, n + 1, h => by cases h; exact .nil
  | d :: ds, _, n + 1, h => by
    cases h with
    | cons h1 h2 => exact .cons h1 (dpAll_take n h2)
theorem dpAll_drop : ∀ {ds : List PyData} {vs : List V} (n : Nat), DpAll K H vs ds → DpAll K H (vs.drop n) (ds.drop n)
  | ds, vs, 0, h => by simpa using h
  | [], _, n + 1, h => by cases h; exact .nil
  | d :: ds, _, n + 1, h => by
    cases h with
    | cons h1 h2 => exact dpAll_drop n h2
theorem dp_tup {v : V} {ds : List PyData} (h : Dp K H v (.tuple ds)) : ∃ a xs, v = .ref a ∧ SqT K H a xs ∧ DpAll K H xs ds := by
  cases h with
  | tup s a => exact ⟨_, _, rfl, s, a⟩
theorem dp_lst {v : V} {ds : List PyData} (h : Dp K H v (.list ds)) : ∃ a xs, v = .ref a ∧ SqL K H a xs ∧ DpAll K H xs ds := by
  cases h with
  | lst s a => exact ⟨_, _, rfl, s, a⟩
/-- ints -/
abbrev iD (ns : List Int) : List PyData := ns.map PyData.int
abbrev iV (ns : List Int) : List V := ns.map V.int
theorem dpAll_ints : ∀ {ns : List Int} {vs : List V}, DpAll K H vs (iD ns) → vs = iV ns
  | [], _, h => by cases h; rfl
  | n :: ns, _, h => by
    cases h with
    | cons h1 h2 =>
      cases h1
      rw [dpAll_ints (ns := ns) h2]
      rfl
theorem ints_dpAll : ∀ (ns : List Int), DpAll K H (iV ns) (iD ns)
  | [] => .nil
  | n :: ns => .cons (.int n) (ints_dpAll ns)
abbrev tI (ns : List Int) : PyData := .tuple (iD ns)
theorem dp_tI {v : V} {ns : List Int} (h : Dp K H v (tI ns)) : ∃ a, v = .ref a ∧ SqT K H a (iV ns) := by
  obtain ⟨a, xs, rfl, s, t⟩ := dp_tup h
  rw [dpAll_ints t] at s
  exact ⟨a, rfl, s⟩
theorem tI_dp {a : Addr} {ns : List Int} (h : SqT K H a (iV ns)) : Dp K H (.ref a) (tI ns) := .tup h (ints_dpAll ns)
theorem dp_int {v : V} {i : Int} (h : Dp K H v (.int i)) : v = .int i := by cases h; rfl
theorem dp_str {v : V} {x : Str} (h : Dp K H v (.str x)) : v = .str x := by cases h; rfl
/-! ### kinds -/
def tyN : PyData → String
  | .none => "NoneType" | .bool _ => "bool" | .int _ => "int" | .str _ => "str" | .list _ => "list" | .tuple _ => "tuple" | .dict _ => "dict"
theorem dp_ty {v : V} {d : PyData} (h : Dp K H v d) : TyX K H v (.type (tyN d)) := by
  cases h with
  | non => exact .base .non
  | bl b => exact .base (.bl b)
  | int i => exact .base (.int i)
  | str x => exact .base (.str x)
  | lst s a =>
    rcases s with (s | ⟨o, s⟩) | ⟨o, its, n, e, c, _⟩
    · exact .base (.lst s)
    · exact .base (.frz s)
    · exact .kList e c
  | tup s a =>
    rcases s with (s | ⟨o, s⟩) | ⟨o, its, n, e, c, _⟩
    · exact .base (.tup s)
    · exact .fTuple s
    · exact .kTuple e c
end
/-- isinstance(x, n) of data -/
def isA (d : PyData) (n : String) : Bool := (kitB (tyN d) n).getD false
def rIsD (K : PySem.W.Frag) : List V → Hp → VK → Prop := fun xs H Q => ∃ (x : V) (n : String) (d : PyData), xs = [x, .ty n] ∧ Dp K H x d ∧ (kitB (tyN d) n).isSome = true ∧ Q (.bl (isA d n)) H
theorem call_isD {X : Cx} : CallR X (.builtin "isinstance") (rIsD X.K) := by
  intro pins s σ H xs us Q I r h
  obtain ⟨x, n, d, rfl, hd, hs, q⟩ := h
  refine call_isi pins s σ H _ us Q I r ⟨x, .ty n, _, _, isA d n, rfl, .ty n, dp_ty hd, ?_, q⟩
  apply kit_ty
  unfold isA
  cases e : kitB (tyN d) n with
  | none => rw [e] at hs; cases hs
  | some b => rfl
theorem kS (d : PyData) (n : String) (h : n = "int" ∨ n = "bool" ∨ n = "str" ∨ n = "list" ∨ n = "tuple") : (kitB (tyN d) n).isSome = true := by
  rcases h with rfl | rfl | rfl | rfl | rfl <;> cases d <;> simp only [tyN] <;> decide +kernel
theorem kInt (d : PyData) : (kitB (tyN d) "int").isSome = true := kS d _ (by simp)
theorem kBool (d : PyData) : (kitB (tyN d) "bool").isSome = true := kS d _ (by simp)
theorem kStr (d : PyData) : (kitB (tyN d) "str").isSome = true := kS d _ (by simp)
theorem kList (d : PyData) : (kitB (tyN d) "list").isSome = true := kS d _ (by simp)
theorem kTuple (d : PyData) : (kitB (tyN d) "tuple").isSome = true := kS d _ (by simp)
def isW : PyData → Bool | .int _ => true | _ => false
def isT : PyData → Bool | .tuple _ => true | _ => false
def isL : PyData → Bool | .list _ => true | _ => false
def isS : PyData → Bool | .str _ => true | _ => false
def isB : PyData → Bool | .bool _ => true | _ => false
def isIB : PyData → Bool | .bool _ => true | .int _ => true | _ => false
theorem isA_tuple (d : PyData) : isA d "tuple" = isT d := by cases d <;> simp only [isA, tyN, isT] <;> decide +kernel
theorem isA_list (d : PyData) : isA d "list" = isL d := by cases d <;> simp only [isA, tyN, isL] <;> decide +kernel
theorem isA_str (d : PyData) : isA d "str" = isS d := by cases d <;> simp only [isA, tyN, isS] <;> decide +kernel
theorem isA_bool (d : PyData) : isA d "bool" = isB d := by cases d <;> simp only [isA, tyN, isB] <;> decide +kernel
theorem isA_int (d : PyData) : isA d "int" = isIB d := by cases d <;> simp only [isA, tyN, isIB] <;> decide +kernel
/-! ### shapes -/
mutual
theorem dp_can {K : PySem.W.Frag} {H : Hp} : ∀ (d : PyData) (v : V), Dp K H v d → d.plain = true
  | .none, _, _ => rfl
  | .bool _, _, _ => rfl
  | .int _, _, _ => rfl
  | .str _, _, _ => rfl
  | .list ds, _, h => by
    cases h with
    | lst s a => simpa [PyData.plain] using dpAll_can ds _ a
  | .tuple ds, _, h => by
    cases h with
    | tup s a => simpa [PyData.plain] using dpAll_can ds _ a
  | .dict _, _, h => by cases h
theorem dpAll_can {K : PySem.W.Frag} {H : Hp} : ∀ (ds : List PyData) (vs : List V), DpAll K H vs ds → PyData.plainAll ds = true
  | [], _, _ => rfl
  | d :: ds, _, h => by
    cases h with
    | cons h1 h2 => simp [PyData.plainAll, dp_can d _ h1, dpAll_can ds _ h2]
end
/-- == and != of data, nested less than 65 deep on the left -/
def rEqP (K : PySem.W.Frag) : R2 := fun x y H Q => ∃ d e, Dp K H x d ∧ Dp K H y e ∧ d.depth ≤ 64 ∧ Q (.bl (PyData.eqv d e)) H
def rNeP (K : PySem.W.Frag) : R2 := fun x y H Q => ∃ d e, Dp K H x d ∧ Dp K H y e ∧ d.depth ≤ 64 ∧ Q (.bl (!PyData.eqv d e)) H
theorem op_eqP {X : Cx} (hu : X.A.units + 64 < cLine) : OpR X (compareOp .Eq) (rEqP X.K) := by
  intro pins s σ H x y v u Q I rx ry h
  obtain ⟨d, e, hd, he, hl, q⟩ := h
  obtain ⟨as, r1⟩ := Dp.reads I d x v hd rx
  obtain ⟨bs, r2⟩ := Dp.reads I e y u he ry
  exact SeqAt.eq_plain r1 r2 (dp_can d x hd) (dp_can e y he) (by omega) ⟨.bl _, H, I, rfl, q⟩
theorem op_neP {X : Cx} (hu : X.A.units + 64 < cLine) : OpR X (compareOp .NotEq) (rNeP X.K) := by
  intro pins s σ H x y v u Q I rx ry h
  obtain ⟨d, e, hd, he, hl, q⟩ := h
  obtain ⟨as, r1⟩ := Dp.reads I d x v hd rx
  obtain ⟨bs, r2⟩ := Dp.reads I e y u he ry
  exact SeqAt.ne_plain r1 r2 (dp_can d x hd) (dp_can e y he) (by omega) ⟨.bl _, H, I, rfl, q⟩
theorem eqv_self {K : PySem.W.Frag} {H : Hp} {d : PyData} {v : V} (h : Dp K H v d) : PyData.eqv d d = true := SeqAt.eqv_refl_plain d (dp_can d v h)
theorem depthAll_le {n : Nat} : ∀ (ds : List PyData), (∀ d ∈ ds, d.depth ≤ n) → PyData.depthAll ds ≤ n
  | [], _ => by simp [PyData.depthAll]
  | d :: ds, h => by
    rw [PyData.depthAll]
    exact Nat.max_le.mpr ⟨h d (by simp), depthAll_le ds fun x hx => h x (by simp [hx])⟩
theorem depth_of_all {n : Nat} : ∀ (ds : List PyData), PyData.depthAll ds ≤ n → ∀ d ∈ ds, d.depth ≤ n
  | [], _, d, h => by simp at h
  | x :: ds, h, d, hd => by
    rw [PyData.depthAll] at h
    obtain ⟨h1, h2⟩ := Nat.max_le.mp h
    rcases List.mem_cons.mp hd with rfl | hd
    · exact h1
    · exact depth_of_all ds h2 d hd
theorem depth_tI (ns : List Int) : (tI ns).depth ≤ 1 := by
  rw [PyData.depth]
  have : PyData.depthAll (iD ns) ≤ 0 := depthAll_le _ fun d hd => by
    obtain ⟨i, _, rfl⟩ := List.mem_map.mp hd
    simp [PyData.depth]
  omega
/-! ### the heap without one cell -/
def Off (k : Addr) (H : Hp) : Hp := fun b => if b = k then none else H b
theorem off_same (k : Addr) (H : Hp) : Same (Off k H) H := fun b o h => by
  unfold Off at h
  split at h
  · cases h
  · exact h
theorem off_mono {k : Addr} {H H' : Hp} (e : Same H H') : Same (Off k H) (Off k H') := fun b o h => by
  unfold Off at h ⊢
  split at h
  · cases h
  · rename_i n
    rw [if_neg n]
    exact e b o h
theorem off_of {k : Addr} {H H' : Hp} (e : ∀ b o, b ≠ k → H b = some o → H' b = some o) : Same (Off k H) (Off k H') := fun b o h => by
  unfold Off at h ⊢
  split at h
  · cases h
  · rename_i n
    rw [if_neg n]
    exact e b o n h
theorem off_back {k : Addr} {H H' : Hp} (e : Same (Off k H) (Off k H')) {b : Addr} {o : HO} (n : b ≠ k) (h : H b = some o) : H' b = some o := by
  have h1 : Off k H b = some o := by unfold Off; rw [if_neg n]; exact h
  have h2 := e b o h1
  unfold Off at h2
  rw [if_neg n] at h2
  exact h2
theorem off_at {k b : Addr} {H : Hp} {o : HO} (n : b ≠ k) (h : H b = some o) : Off k H b = some o := by
  unfold Off
  rw [if_neg n]
  exact h
theorem same_new {H : Hp} {p : Addr} {o : HO} (h : H p = none) : Same H (upd H p o) := fun b x e => by
  rw [upd_ne (ne_of_none e h)]
  exact e
/-! data without lists does not hold the cell of a list -/
mutual
def noL : PyData → Bool
  | .list _ => false
  | .tuple ds => noLs ds
  | .none | .bool _ | .int _ | .str _ | .dict _ => true
def noLs : List PyData → Bool
  | [] => true
  | d :: ds => noL d && noLs ds
end
theorem noLs_all : ∀ (ds : List PyData), (∀ d ∈ ds, noL d = true) → noLs ds = true
  | [], _ => rfl
  | d :: ds, h => by simp [noLs, h d (by simp), noLs_all ds fun x hx => h x (by simp [hx])]
theorem noL_tI (ns : List Int) : noL (tI ns) = true := by
  rw [noL]
  exact noLs_all _ fun d hd => by
    obtain ⟨i, _, rfl⟩ := List.mem_map.mp hd
    rfl
mutual
theorem dp_off {K : PySem.W.Frag} {H : Hp} {k : Addr} {l : List V} (hk : H k = some (.lst l)) : ∀ (d : PyData) (v : V), noL d = true → Dp K H v d → Dp K (Off k H) v d
  | .none, _, _, h => by cases h; exact .non
  | .bool b, _, _, h => by cases h; exact .bl b
  | .int i, _, _, h => by cases h; exact .int i
  | .str x, _, _, h => by cases h; exact .str x
  | .list ds, _, n, h => by simp [noL] at n
  | .tuple ds, _, n, h => by
    cases h with
    | @tup a xs _ s al =>
      refine .tup ?_ (dpAll_off hk ds _ (by simpa [noL] using n) al)
      rcases s with (s | ⟨o, s⟩) | s
      · exact .inl (.inl (off_at (ne_of s hk (by intro z; cases z)) s))
      · exact .inl (.inr ⟨o, off_at (ne_of s hk (by intro z; cases z)) s⟩)
      · exact .inr s
  | .dict _, _, _, h => by cases h
theorem dpAll_off {K : PySem.W.Frag} {H : Hp} {k : Addr} {l : List V} (hk : H k = some (.lst l)) : ∀ (ds : List PyData) (vs : List V), noLs ds = true → DpAll K H vs ds → DpAll K (Off k H) vs ds
  | [], _, _, h => by cases h; exact .nil
  | d :: ds, _, n, h => by
    cases h with
    | cons h1 h2 =>
      have n' : noL d = true ∧ noLs ds = true := by simpa [noLs] using n
      exact .cons (dp_off hk d _ n'.1 h1) (dpAll_off hk ds _ n'.2 h2)
end
/-! ### what a def gives back -/
abbrev RB (H : Hp) (Q : VK) (b : Bool) : Prop := ∀ H', Same H H' → Q (.bl b) H'
abbrev RI (H : Hp) (Q : VK) (n : Int) : Prop := ∀ H', Same H H' → Q (.int n) H'
abbrev RD (K : PySem.W.Frag) (H : Hp) (Q : VK) (d : PyData) : Prop := ∀ v H', Same H H' → Dp K H' v d → Q v H'
end PS

namespace PS
open PySem PySem.Spec PyProof.Rows L2
/-! ### what the defs tell, over data -/
def within (d : PyData) (lo hi : Int) : Bool := match d with
  | .int i => if lo ≤ i then decide (i ≤ hi) else false
  | _ => false
def tupOf (d : PyData) (n : Int) : Bool := match d with
  | .tuple ds => decide ((ds.length : Int) = n)
  | _ => false
def areBlocks (d : PyData) : Bool := match d with
  | .tuple ds => if 1 ≤ (ds.length : Int) ∧ (ds.length : Int) ≤ 8 then ds.all (fun x => within x 1 50) else false
  | _ => false
def intOf : PyData → Int
  | .int i => i
  | _ => 0
def isShelf (d : PyData) : Bool := match d with
  | .tuple [r, .tuple bs] => if areBlocks (.tuple bs) = true then within r (bs.map intOf).sum ((bs.map intOf).sum + 400) else false
  | _ => false
theorem within_ints : ∀ {ds : List PyData} {lo hi : Int}, ds.all (fun x => within x lo hi) = true → ∃ ns : List Int, ds = iD ns ∧ ∀ n ∈ ns, lo ≤ n ∧ n ≤ hi
  | [], _, _, _ => ⟨[], rfl, by simp⟩
  | d :: ds, lo, hi, h => by
    rw [List.all_cons, Bool.and_eq_true] at h
    obtain ⟨ns, e, q⟩ := within_ints h.2
    cases d with
    | int i =>
      have h1 := h.1
      unfold within at h1
      simp only at h1
      by_cases hl : lo ≤ i
      · rw [if_pos hl] at h1
        have h2 := of_decide_eq_true h1
        exact ⟨i :: ns, by rw [e]; rfl, fun n hn => by
          rcases List.mem_cons.mp hn with rfl | hn
          · exact ⟨hl, h2⟩
          · exact q n hn⟩
      · rw [if_neg hl] at h1; cases h1
    | _ => simp [within] at h
theorem intOf_iD : ∀ ns : List Int, (iD ns).map intOf = ns
  | [] => rfl
  | n :: ns => by
    show n :: (iD ns).map intOf = n :: ns
    rw [intOf_iD ns]
/-- a shelf -/
abbrev shD (room : Int) (ls : List Int) : PyData := .tuple [.int room, tI ls]
structure ShOk (room : Int) (ls : List Int) : Prop where
  n1 : 1 ≤ ls.length
  n8 : ls.length ≤ 8
  l1 : ∀ l ∈ ls, 1 ≤ l ∧ l ≤ 50
  lo : ls.sum ≤ room
  hi : room ≤ ls.sum + 400
theorem areBlocks_ints {ds : List PyData} (h : areBlocks (.tuple ds) = true) : ∃ ls : List Int, ds = iD ls ∧ 1 ≤ ls.length ∧ ls.length ≤ 8 ∧ ∀ l ∈ ls, 1 ≤ l ∧ l ≤ 50 := by
  unfold areBlocks at h
  simp only at h
  split at h
  · rename_i hc
    obtain ⟨ls, rfl, q⟩ := within_ints h
    rw [List.length_map] at hc
    exact ⟨ls, rfl, by omega, by omega, q⟩
  · cases h
theorem all_within {ls : List Int} {lo hi : Int} (h : ∀ l ∈ ls, lo ≤ l ∧ l ≤ hi) : (iD ls).all (fun x => within x lo hi) = true := by
  rw [List.all_eq_true]
  intro x hx
  obtain ⟨l, hl, rfl⟩ := List.mem_map.mp hx
  unfold within
  simp only
  rw [if_pos (h l hl).1]
  exact decide_eq_true (h l hl).2
theorem areBlocks_ok {ls : List Int} (h1 : 1 ≤ ls.length) (h8 : ls.length ≤ 8) (h : ∀ l ∈ ls, 1 ≤ l ∧ l ≤ 50) : areBlocks (tI ls) = true := by
  unfold areBlocks
  simp only
  rw [if_pos ⟨by rw [List.length_map]; omega, by rw [List.length_map]; omega⟩]
  exact all_within h
theorem isShelf_ok {room : Int} {ls : List Int} (h : ShOk room ls) : isShelf (shD room ls) = true := by
  unfold isShelf
  simp only
  rw [if_pos (areBlocks_ok h.n1 h.n8 h.l1), intOf_iD]
  unfold within
  simp only
  rw [if_pos h.lo]
  exact decide_eq_true h.hi
end PS

namespace PS
open PySem PySem.Spec PyProof.Rows L2
/-! ### slices, walks -/
theorem cut_to (xs : List V) (k : Nat) : cutV xs none (some (k : Int)) = xs.take k := by
  unfold cutV
  rw [HT.sIx_none, HT.sIx_nat, List.drop_zero, Nat.sub_zero]
  by_cases h : k ≤ xs.length
  · rw [Nat.min_eq_left h]
  · rw [Nat.min_eq_right (by omega), List.take_length, List.take_of_length_le (by omega)]
theorem cut_from (xs : List V) (k : Nat) : cutV xs (some (k : Int)) none = xs.drop k := by
  unfold cutV
  rw [HT.sIx_none, HT.sIx_nat]
  by_cases h : k ≤ xs.length
  · rw [Nat.min_eq_left h, List.take_of_length_le (by rw [List.length_drop]; omega)]
  · rw [Nat.min_eq_right (by omega), Nat.sub_self, List.take_zero, List.drop_of_length_le (by omega)]
/-- t[:k] of a tuple, whatever it is -/
theorem slT_to {K : PySem.W.Frag} {H : Hp} {Q : VK} {a : Addr} {xs : List V} {k : Nat} (s : SqT K H a xs) (q : ∀ p H', Same H H' → SqT K H' p (xs.take k) → Q (.ref p) H') : rSlA K (.ref a) none (some (k : Int)) H Q := by
  refine ⟨a, xs, rfl, s, fun h => ?_, fun h p np => ?_⟩
  · have e : xs.take k = xs := List.take_of_length_le (by
      have := h.2
      rw [HT.sIx_nat] at this
      omega)
    exact q a H (Same.refl H) (by rw [e]; exact s)
  · rw [cut_to]
    exact q p _ (same_new np) (.inl (.inl upd_same))
theorem slT_from {K : PySem.W.Frag} {H : Hp} {Q : VK} {a : Addr} {xs : List V} {k : Nat} (s : SqT K H a xs) (q : ∀ p H', Same H H' → SqT K H' p (xs.drop k) → Q (.ref p) H') : rSlA K (.ref a) (some (k : Int)) none H Q := by
  refine ⟨a, xs, rfl, s, fun h => ?_, fun h p np => ?_⟩
  · have e : xs.drop k = xs := by
      have := h.1
      rw [HT.sIx_nat] at this
      by_cases hk : k = 0
      · subst hk; rfl
      · have : xs.length = 0 := by omega
        rw [List.length_eq_zero_iff.mp this]; simp
    exact q a H (Same.refl H) (by rw [e]; exact s)
  · rw [cut_from]
    exact q p _ (same_new np) (.inl (.inl upd_same))
theorem walk_2 {b1 b2 : Bool} {K : PySem.W.Frag} {a1 a2 : Addr} {xs ys : List V} {n : Nat} (hn : n = min xs.length ys.length) :
    Walk (It2 b1 b2 K a1 a2) n (fun H => SqK b1 K H a1 xs ∧ SqK b2 K H a2 ys) (fun i H v H' => ∃ T x y, v = .ref T ∧ H T = none ∧ H' = upd H T (.tup [x, y]) ∧ xs[i]? = some x ∧ ys[i]? = some y) where
  goes := fun i H hi g => ⟨xs, ys, xs[i], ys[i], g.1, g.2, List.getElem?_eq_getElem (by omega), List.getElem?_eq_getElem (by omega)⟩
  stops := fun H g => ⟨xs, ys, g.1, g.2, hn⟩
  yields := fun i H x H' hi g y => by
    obtain ⟨T, x, y, rfl, nT, rfl, f1, f2⟩ := y
    exact ⟨T, x, y, rfl, nT, rfl, f1 xs g.1, f2 ys g.2⟩
theorem walk_3 {b1 b2 b3 : Bool} {K : PySem.W.Frag} {a1 a2 a3 : Addr} {xs ys zs : List V} {n : Nat} (hn : n = min (min xs.length ys.length) zs.length) :
    Walk (It3 b1 b2 b3 K a1 a2 a3) n (fun H => SqK b1 K H a1 xs ∧ SqK b2 K H a2 ys ∧ SqK b3 K H a3 zs) (fun i H v H' => ∃ T x y z, v = .ref T ∧ H T = none ∧ H' = upd H T (.tup [x, y, z]) ∧ xs[i]? = some x ∧ ys[i]? = some y ∧ zs[i]? = some z) where
  goes := fun i H hi g => ⟨xs, ys, zs, xs[i], ys[i], zs[i], g.1, g.2.1, g.2.2, List.getElem?_eq_getElem (by omega), List.getElem?_eq_getElem (by omega), List.getElem?_eq_getElem (by omega)⟩
  stops := fun H g => ⟨xs, ys, zs, g.1, g.2.1, g.2.2, hn⟩
  yields := fun i H x H' hi g y => by
    obtain ⟨T, x, y, z, rfl, nT, rfl, f1, f2, f3⟩ := y
    exact ⟨T, x, y, z, rfl, nT, rfl, f1 xs g.1, f2 ys g.2.1, f3 zs g.2.2⟩
theorem walk_1 {b : Bool} {K : PySem.W.Frag} {a : Addr} {xs : List V} {n : Nat} (hn : n = xs.length) :
    Walk (It1 b K a) n (fun H => SqK b K H a xs) (fun i H v H' => ∃ T x, v = .ref T ∧ H T = none ∧ H' = upd H T (.tup [.int (i : Nat), x]) ∧ xs[i]? = some x) where
  goes := fun i H hi g => ⟨xs, xs[i], g, List.getElem?_eq_getElem (by omega)⟩
  stops := fun H g => ⟨xs, g, hn⟩
  yields := fun i H x H' hi g y => by
    obtain ⟨T, x, rfl, nT, rfl, f⟩ := y
    exact ⟨T, x, rfl, nT, rfl, f xs g⟩
theorem ixN_at {n j : Nat} {z : Int} (e : z = (j : Int)) (h : j < n) : ixN n z = some j := by
  subst e
  unfold ixN
  rw [if_pos (by omega), if_pos (by omega)]
  simp
theorem iV_get {ns : List Int} {j : Nat} {v : Int} (h : ns[j]? = some v) : (iV ns)[j]? = some (.int v) := by
  rw [List.getElem?_map, h]
  rfl
theorem iV_set (ns : List Int) (j : Nat) (v : Int) : (iV ns).set j (.int v) = iV (ns.set j v) := List.map_set.symm
theorem iV_len (ns : List Int) : (iV ns).length = ns.length := List.length_map ..
/-! ### stands by their places -/
def pre (ls : List Int) (j : Nat) : Int := (ls.take j).sum
def stL (ls : List Int) (y : Nat → Int) : List Int := (List.range ls.length).map fun j => y j + pre ls j
structure Rise (n : Nat) (pl : Int) (y : Nat → Int) : Prop where
  lo : ∀ j, j < n → 0 ≤ y j
  hi : ∀ j, j < n → y j ≤ pl
  up : ∀ j, j + 1 < n → y j ≤ y (j + 1)
theorem pre_zero (ls : List Int) : pre ls 0 = 0 := by simp [pre]
theorem pre_succ {ls : List Int} {j : Nat} (h : j < ls.length) : pre ls (j + 1) = pre ls j + ls[j] := by
  unfold pre
  exact L2.sum_take (List.getElem?_eq_getElem h)
theorem pre_all (ls : List Int) {j : Nat} (h : ls.length ≤ j) : pre ls j = ls.sum := by
  unfold pre
  rw [List.take_of_length_le h]
theorem stL_len (ls : List Int) (y : Nat → Int) : (stL ls y).length = ls.length := by simp [stL]
theorem stL_get {ls : List Int} {y : Nat → Int} {j : Nat} (h : j < ls.length) : (stL ls y)[j]? = some (y j + pre ls j) := by
  simp [stL, h]
theorem stL_congr {ls : List Int} {y z : Nat → Int} (h : ∀ j, j < ls.length → y j = z j) : stL ls y = stL ls z := by
  apply List.ext_getElem?
  intro j
  by_cases hj : j < ls.length
  · rw [stL_get hj, stL_get hj, h j hj]
  · rw [List.getElem?_eq_none (by rw [stL_len]; omega), List.getElem?_eq_none (by rw [stL_len]; omega)]
theorem stL_inj {ls : List Int} {y z : Nat → Int} (h : stL ls y = stL ls z) : ∀ j, j < ls.length → y j = z j := fun j hj => by
  have e := congrArg (fun l : List Int => l[j]?) h
  simp only [stL_get hj] at e
  have := Option.some.inj e
  omega
theorem stL_set {ls : List Int} {y : Nat → Int} {k : Nat} {v : Int} (h : k < ls.length) : (stL ls y).set k v = stL ls (fun j => if j = k then v - pre ls k else y j) := by
  apply List.ext_getElem?
  intro j
  by_cases hj : j < ls.length
  · rw [stL_get hj, List.getElem?_set, stL_len]
    by_cases e : k = j
    · subst e
      rw [if_pos rfl, if_pos h, if_pos rfl]
      congr 1
      omega
    · rw [if_neg e, stL_get hj, if_neg (Ne.symm e)]
  · rw [List.getElem?_eq_none (by rw [List.length_set, stL_len]; omega), List.getElem?_eq_none (by rw [stL_len]; omega)]
def pR (g : Nat) (b : Int) (y : Nat → Int) : Nat → Int := fun j => if g ≤ j then max (y j) b else y j
def pL (g : Nat) (b : Int) (y : Nat → Int) : Nat → Int := fun j => if j < g then min (y j) b else y j
theorem pR_rise {n g : Nat} {pl b : Int} {y : Nat → Int} (h : Rise n pl y) (b0 : 0 ≤ b) (b1 : b ≤ pl) : Rise n pl (pR g b y) where
  lo := fun j hj => by
    have := h.lo j hj
    unfold pR; split <;> omega
  hi := fun j hj => by
    have := h.hi j hj
    unfold pR; split <;> omega
  up := fun j hj => by
    have := h.up j hj
    unfold pR; split <;> split <;> omega
theorem pL_rise {n g : Nat} {pl b : Int} {y : Nat → Int} (h : Rise n pl y) (b0 : 0 ≤ b) (b1 : b ≤ pl) : Rise n pl (pL g b y) where
  lo := fun j hj => by
    have := h.lo j hj
    unfold pL; split <;> omega
  hi := fun j hj => by
    have := h.hi j hj
    unfold pL; split <;> omega
  up := fun j hj => by
    have := h.up j hj
    unfold pL; split <;> split <;> omega
/-! ### is it a stand -/
def standG (room : Int) : Int → List PyData → List Int → Bool
  | e, d :: ds, l :: ls => match d with
    | .int i => if i < e then false else standG room (i + l) ds ls
    | _ => false
  | e, _, _ => decide (e ≤ room)
def isStand (room : Int) (ls : List Int) (d : PyData) : Bool := match d with
  | .tuple ds => if (ds.length : Int) = ls.length then standG room 0 ds ls else false
  | _ => false
theorem standG_ok {room : Int} {ls : List Int} {y : Nat → Int} (h : Rise ls.length (room - ls.sum) y) : ∀ (m k : Nat) (e : Int), m + k = ls.length → (k < ls.length → e ≤ y k + pre ls k) → (k = ls.length → e ≤ room) → standG room e ((iD (stL ls y)).drop k) (ls.drop k) = true
  | 0, k, e, hk, _, h2 => by
    rw [List.drop_of_length_le (by rw [List.length_map, stL_len]; omega), List.drop_of_length_le (by omega)]
    exact decide_eq_true (h2 (by omega))
  | m + 1, k, e, hk, h1, h2 => by
    have hlt : k < ls.length := by omega
    have e1 : (iD (stL ls y))[k]? = some (.int (y k + pre ls k)) := by
      rw [List.getElem?_map, stL_get hlt]
      rfl
    have hl : k < (iD (stL ls y)).length := by rw [List.length_map, stL_len]; exact hlt
    rw [List.drop_eq_getElem_cons hl, List.drop_eq_getElem_cons hlt]
    rw [List.getElem?_eq_getElem hl] at e1
    rw [Option.some.inj e1]
    unfold standG
    simp only
    rw [if_neg (by have := h1 hlt; omega)]
    have hp := pre_succ hlt
    refine standG_ok h m (k + 1) _ (by omega) (fun hq => ?_) (fun hq => ?_)
    · have := h.up k hq
      omega
    · have := h.hi k hlt
      have := pre_all ls (j := k + 1) (by omega)
      omega
theorem isStand_ok {room : Int} {ls : List Int} {y : Nat → Int} (h : Rise ls.length (room - ls.sum) y) (h0 : ls.sum ≤ room) : isStand room ls (tI (stL ls y)) = true := by
  unfold isStand
  simp only
  rw [if_pos (by rw [List.length_map, stL_len])]
  have := standG_ok h ls.length 0 0 (by omega) (fun hq => by
    have := h.lo 0 hq
    rw [pre_zero]
    omega) (fun hq => by
      have : ls = [] := List.length_eq_zero_iff.mp hq.symm
      subst this
      simpa using h0)
  simpa using this
/-! ### pushes, rows -/
/-- right or left, the gap, the place less the gap's length -/
abbrev Push := Bool × Nat × Int
def sideS (r : Bool) : Str := if r = true then "right" else "left"
def puD (ls : List Int) (p : Push) : PyData := .tuple [.str (sideS p.1), .int p.2.1, .int (p.2.2 + pre ls p.2.1)]
def roD (ls : List Int) (r : List Push) : PyData := .list (r.map (puD ls))
structure PuOk (n : Nat) (pl : Int) (p : Push) : Prop where
  g0 : p.1 = true → p.2.1 < n
  g1 : p.1 = false → 1 ≤ p.2.1 ∧ p.2.1 ≤ n
  b0 : 0 ≤ p.2.2
  b1 : p.2.2 ≤ pl
def doP (y : Nat → Int) (p : Push) : Nat → Int := if p.1 = true then pR p.2.1 p.2.2 y else pL p.2.1 p.2.2 y
def doR (y : Nat → Int) (r : List Push) : Nat → Int := r.foldl doP y
theorem doP_rise {n : Nat} {pl : Int} {y : Nat → Int} {p : Push} (h : Rise n pl y) (k : PuOk n pl p) : Rise n pl (doP y p) := by
  unfold doP
  split
  · exact pR_rise h k.b0 k.b1
  · exact pL_rise h k.b0 k.b1
theorem doR_rise {n : Nat} {pl : Int} : ∀ {r : List Push} {y : Nat → Int}, Rise n pl y → (∀ p ∈ r, PuOk n pl p) → Rise n pl (doR y r)
  | [], y, h, _ => h
  | p :: r, y, h, k => doR_rise (r := r) (doP_rise h (k p (by simp))) fun q hq => k q (by simp [hq])
theorem doR_app (y : Nat → Int) (r s : List Push) : doR y (r ++ s) = doR (doR y r) s := by simp [doR, List.foldl_append]
def isGap (n : Int) (s g : PyData) : Bool := if PyData.eqv s (.str "right") = true then within g 0 (n - 1) else if PyData.eqv s (.str "left") = true then within g 1 n else false
def isPush (room : Int) (ls : List Int) (d : PyData) : Bool := match d with
  | .tuple [s, g, p] => if isGap ls.length s g = true then within p (pre ls (intOf g).toNat) (pre ls (intOf g).toNat + (room - ls.sum)) else false
  | _ => false
def isRow (room : Int) (ls : List Int) (d : PyData) : Bool := match d with
  | .list ds => if (ds.length : Int) > 200 then false else ds.all (isPush room ls)
  | _ => false
theorem within_ok {i lo hi : Int} (h1 : lo ≤ i) (h2 : i ≤ hi) : within (.int i) lo hi = true := by
  unfold within
  simp only
  rw [if_pos h1]
  exact decide_eq_true h2
theorem isPush_ok {room : Int} {ls : List Int} {p : Push} (h : PuOk ls.length (room - ls.sum) p) : isPush room ls (puD ls p) = true := by
  obtain ⟨r, g, b⟩ := p
  obtain ⟨g0, g1, b0, b1⟩ := h
  simp only at g0 g1 b0 b1
  unfold isPush puD
  simp only
  have hg : isGap ls.length (.str (sideS r)) (.int (g : Int)) = true := by
    unfold isGap
    cases r with
    | true =>
      have := g0 rfl
      rw [if_pos (by decide +kernel)]
      exact within_ok (by omega) (by omega)
    | false =>
      have := g1 rfl
      rw [if_neg (by decide +kernel), if_pos (by decide +kernel)]
      exact within_ok (by omega) (by omega)
  rw [if_pos hg]
  exact within_ok (by simp [intOf]; omega) (by simp [intOf]; omega)
theorem isRow_ok {room : Int} {ls : List Int} {r : List Push} (hl : r.length ≤ 200) (h : ∀ p ∈ r, PuOk ls.length (room - ls.sum) p) : isRow room ls (roD ls r) = true := by
  unfold isRow roD
  simp only
  rw [if_neg (by rw [List.length_map]; omega), List.all_eq_true]
  intro d hd
  obtain ⟨p, hp, rfl⟩ := List.mem_map.mp hd
  exact isPush_ok (h p hp)
theorem puD_depth (ls : List Int) (p : Push) : (puD ls p).depth ≤ 1 := by
  unfold puD
  simp [PyData.depth, PyData.depthAll]
theorem noL_puD (ls : List Int) (p : Push) : noL (puD ls p) = true := rfl
end PS

namespace PS
open PySem PySem.Spec PyProof.Rows L2
/-! ### what a row does to one block -/
def clamp (l h x : Int) : Int := min (max x l) h
/-- one push at the j-th block -/
def act (j : Nat) (x : Int) (p : Push) : Int := if p.1 = true then (if p.2.1 ≤ j then max x p.2.2 else x) else (if j < p.2.1 then min x p.2.2 else x)
theorem doP_at (y : Nat → Int) (p : Push) (j : Nat) : doP y p j = act j (y j) p := by
  unfold doP act
  split <;> rfl
theorem doR_at : ∀ (r : List Push) (y : Nat → Int) (j : Nat), doR y r j = r.foldl (act j) (y j)
  | [], y, j => rfl
  | p :: r, y, j => by
    show doR (doP y p) r j = r.foldl (act j) (act j (y j) p)
    rw [doR_at r, doP_at]
theorem act_mono {j : Nat} {x z : Int} (h : x ≤ z) (p : Push) : act j x p ≤ act j z p := by
  unfold act
  split <;> split <;> omega
theorem fold_mono {j : Nat} : ∀ (r : List Push) {x z : Int}, x ≤ z → r.foldl (act j) x ≤ r.foldl (act j) z
  | [], x, z, h => h
  | p :: r, x, z, h => fold_mono r (act_mono h p)
theorem act_in {j : Nat} {x pl : Int} {p : Push} (b0 : 0 ≤ p.2.2) (b1 : p.2.2 ≤ pl) (h0 : 0 ≤ x) (h1 : x ≤ pl) : 0 ≤ act j x p ∧ act j x p ≤ pl := by
  unfold act
  split <;> split <;> omega
theorem fold_clamp {j : Nat} {pl : Int} (hp : 0 ≤ pl) : ∀ (r : List Push), (∀ p ∈ r, 0 ≤ p.2.2 ∧ p.2.2 ≤ pl) → ∀ x, 0 ≤ x → x ≤ pl → r.foldl (act j) x = clamp (r.foldl (act j) 0) (r.foldl (act j) pl) x
  | [], _, x, h0, h1 => by
    show x = min (max x 0) pl
    omega
  | p :: r, hb, x, h0, h1 => by
    have hp1 := hb p (by simp)
    have ih := fold_clamp (j := j) hp r fun q hq => hb q (by simp [hq])
    have m := fold_mono (j := j) r hp
    have a1 := act_in (j := j) hp1.1 hp1.2 h0 h1
    have a2 := act_in (j := j) hp1.1 hp1.2 (Int.le_refl 0) hp
    have a3 := act_in (j := j) hp1.1 hp1.2 hp (Int.le_refl pl)
    show r.foldl (act j) (act j x p) = clamp (r.foldl (act j) (act j 0 p)) (r.foldl (act j) (act j pl p)) x
    rw [ih _ a1.1 a1.2, ih _ a2.1 a2.2, ih _ a3.1 a3.2]
    generalize r.foldl (act j) 0 = l at m ⊢
    generalize r.foldl (act j) pl = h at m ⊢
    unfold clamp act
    split <;> split <;> omega
def loR (r : List Push) : Nat → Int := doR (fun _ => 0) r
def hiR (pl : Int) (r : List Push) : Nat → Int := doR (fun _ => pl) r
theorem rise_const {n : Nat} {pl c : Int} (h0 : 0 ≤ c) (h1 : c ≤ pl) : Rise n pl (fun _ => c) := ⟨fun _ _ => h0, fun _ _ => h1, fun _ _ => Int.le_refl c⟩
theorem lo_le_hi {pl : Int} (hp : 0 ≤ pl) (r : List Push) (j : Nat) : loR r j ≤ hiR pl r j := by
  unfold loR hiR
  rw [doR_at, doR_at]
  exact fold_mono r hp
theorem doR_clamp {n : Nat} {pl : Int} {y : Nat → Int} {r : List Push} (hp : 0 ≤ pl) (hy : Rise n pl y) (hr : ∀ p ∈ r, PuOk n pl p) {j : Nat} (hj : j < n) : doR y r j = clamp (loR r j) (hiR pl r j) (y j) := by
  unfold loR hiR
  rw [doR_at, doR_at, doR_at]
  exact fold_clamp hp r (fun p h => ⟨(hr p h).b0, (hr p h).b1⟩) _ (hy.lo j hj) (hy.hi j hj)
theorem clamp_twice {l h x : Int} (e : l ≤ h) : clamp l h (clamp l h x) = clamp l h x := by
  unfold clamp
  omega
theorem doR_twice {n : Nat} {pl : Int} {y : Nat → Int} {r : List Push} (hp : 0 ≤ pl) (hy : Rise n pl y) (hr : ∀ p ∈ r, PuOk n pl p) {j : Nat} (hj : j < n) : doR (doR y r) r j = doR y r j := by
  rw [doR_clamp hp (doR_rise hy hr) hr hj, doR_clamp hp hy hr hj, clamp_twice (lo_le_hi hp r j)]
/-- a doing done by places -/
def ledF (lo hi y : Nat → Int) : Nat → Int := fun j => clamp (lo j) (hi j) (y j)
theorem led_rise {n : Nat} {pl : Int} {lo hi y : Nat → Int} (h1 : Rise n pl lo) (h2 : Rise n pl hi) (h3 : Rise n pl y) : Rise n pl (ledF lo hi y) where
  lo := fun j hj => by
    have := h1.lo j hj; have := h2.lo j hj; have := h3.lo j hj
    unfold ledF clamp; omega
  hi := fun j hj => by
    have := h1.hi j hj; have := h2.hi j hj; have := h3.hi j hj
    unfold ledF clamp; omega
  up := fun j hj => by
    have := h1.up j hj; have := h2.up j hj; have := h3.up j hj
    unfold ledF clamp; omega
/-- a doing -/
abbrev dgD (ls : List Int) (lo hi : Nat → Int) : PyData := .tuple [tI (stL ls lo), tI (stL ls hi)]
structure DoOk (n : Nat) (pl : Int) (lo hi : Nat → Int) : Prop where
  l : Rise n pl lo
  h : Rise n pl hi
  le : ∀ j, j < n → lo j ≤ hi j
theorem row_doOk {n : Nat} {pl : Int} {r : List Push} (hp : 0 ≤ pl) (hr : ∀ p ∈ r, PuOk n pl p) : DoOk n pl (loR r) (hiR pl r) :=
  ⟨doR_rise (rise_const (Int.le_refl 0) hp) hr, doR_rise (rise_const hp (Int.le_refl pl)) hr, fun j _ => lo_le_hi hp r j⟩
/-! ### is it a doing -/
def allLe : List PyData → List PyData → Bool
  | .int a :: ds, .int b :: es => if a ≤ b then allLe ds es else false
  | _, _ => true
def isDoing (room : Int) (ls : List Int) (d : PyData) : Bool := match d with
  | .tuple [.tuple a, .tuple b] => if isStand room ls (.tuple a) = true then (if isStand room ls (.tuple b) = true then allLe a b else false) else false
  | _ => false
theorem standG_ints {room : Int} : ∀ {ds : List PyData} {ls : List Int} {e : Int}, ds.length = ls.length → standG room e ds ls = true → ∃ ns : List Int, ds = iD ns
  | [], [], e, _, _ => ⟨[], rfl⟩
  | [], l :: ls, e, h, _ => by simp at h
  | d :: ds, [], e, h, _ => by simp at h
  | d :: ds, l :: ls, e, h, hg => by
    cases d with
    | int i =>
      have hg : (if i < e then false else standG room (i + l) ds ls) = true := hg
      split at hg
      · cases hg
      · obtain ⟨ns, rfl⟩ := standG_ints (by simpa using h) hg
        exact ⟨i :: ns, rfl⟩
    | _ => cases hg
theorem isStand_ints {room : Int} {ls : List Int} {d : PyData} (h : isStand room ls d = true) : ∃ ns : List Int, d = tI ns ∧ ns.length = ls.length := by
  cases d with
  | tuple ds =>
    have h : (if (ds.length : Int) = ls.length then standG room 0 ds ls else false) = true := h
    split at h
    · rename_i e
      obtain ⟨ns, rfl⟩ := standG_ints (by omega) h
      exact ⟨ns, rfl, by rw [List.length_map] at e; omega⟩
    · cases h
  | _ => cases h
theorem allLe_ints : ∀ (ns ms : List Int), allLe (iD ns) (iD ms) = (List.zipWith (fun a b => decide (a ≤ b)) ns ms).all id
  | [], _ => by cases ‹List Int› <;> rfl
  | _ :: _, [] => rfl
  | n :: ns, m :: ms => by
    show (if n ≤ m then allLe (iD ns) (iD ms) else false) = (decide (n ≤ m) && (List.zipWith (fun a b => decide (a ≤ b)) ns ms).all id)
    rw [allLe_ints ns ms]
    by_cases h : n ≤ m
    · rw [if_pos h, decide_eq_true h]; simp
    · rw [if_neg h, decide_eq_false h]; simp
theorem allLe_stL {ls : List Int} {lo hi : Nat → Int} (h : ∀ j, j < ls.length → lo j ≤ hi j) : allLe (iD (stL ls lo)) (iD (stL ls hi)) = true := by
  rw [allLe_ints, List.all_eq_true]
  intro b hb
  obtain ⟨i, hi', e⟩ := List.mem_iff_getElem.mp hb
  have hi2 : i < ls.length := by simpa [stL_len] using hi'
  have e1 := stL_get (y := lo) hi2
  have e2 := stL_get (y := hi) hi2
  have g1 : i < (stL ls lo).length := by rw [stL_len]; exact hi2
  have g2 : i < (stL ls hi).length := by rw [stL_len]; exact hi2
  rw [List.getElem?_eq_getElem g1] at e1
  rw [List.getElem?_eq_getElem g2] at e2
  rw [List.getElem_zipWith, Option.some.inj e1, Option.some.inj e2] at e
  rw [← e]
  have := h i hi2
  simp only [id]
  exact decide_eq_true (by omega)
theorem isDoing_ok {room : Int} {ls : List Int} {lo hi : Nat → Int} (sh : ls.sum ≤ room) (h : DoOk ls.length (room - ls.sum) lo hi) : isDoing room ls (dgD ls lo hi) = true := by
  show (if isStand room ls (tI (stL ls lo)) = true then (if isStand room ls (tI (stL ls hi)) = true then allLe (iD (stL ls lo)) (iD (stL ls hi)) else false) else false) = true
  rw [if_pos (isStand_ok h.l sh), if_pos (isStand_ok h.h sh)]
  exact allLe_stL h.le
end PS

namespace PS
open PySem PySem.Spec PyProof.Rows L2
/-! ### what is a stand has places -/
theorem standG_rise {room : Int} {ls ns : List Int} {t : Nat → Int} (hn : ns.length = ls.length) (ht : ∀ j (h : j < ns.length), ns[j] = t j + pre ls j) : ∀ (m k : Nat) (e : Int), m + k = ls.length → standG room e ((iD ns).drop k) (ls.drop k) = true →
    (k < ls.length → e ≤ t k + pre ls k) ∧ (∀ j, k ≤ j → j + 1 < ls.length → t j ≤ t (j + 1)) ∧ (k < ls.length → t (ls.length - 1) ≤ room - ls.sum) ∧ (k = ls.length → e ≤ room)
  | 0, k, e, hk, h => by
    have hk : k = ls.length := by omega
    rw [List.drop_of_length_le (by rw [List.length_map]; omega), List.drop_of_length_le (by omega)] at h
    exact ⟨fun z => by omega, fun j h1 h2 => by omega, fun z => by omega, fun _ => of_decide_eq_true h⟩
  | m + 1, k, e, hk, h => by
    have hlt : k < ls.length := by omega
    have hl : k < (iD ns).length := by rw [List.length_map]; omega
    have e1 : (iD ns)[k] = .int (t k + pre ls k) := by rw [List.getElem_map, ht k (by omega)]
    rw [List.drop_eq_getElem_cons hl, List.drop_eq_getElem_cons hlt, e1] at h
    have h : (if t k + pre ls k < e then false else standG room (t k + pre ls k + ls[k]) ((iD ns).drop (k + 1)) (ls.drop (k + 1))) = true := h
    have hp := pre_succ hlt
    split at h
    · cases h
    · rename_i hc
      obtain ⟨a1, a2, a3, a4⟩ := standG_rise hn ht m (k + 1) _ (by omega) h
      refine ⟨fun _ => by omega, fun j h1 h2 => ?_, fun _ => ?_, fun z => by omega⟩
      · by_cases ej : j = k
        · subst ej
          have := a1 h2
          omega
        · exact a2 j (by omega) h2
      · by_cases el : k + 1 < ls.length
        · exact a3 el
        · have ek : k + 1 = ls.length := by omega
          have := a4 ek
          have hs := pre_all ls (j := k + 1) (by omega)
          rw [show ls.length - 1 = k by omega]
          omega
theorem stand_data {room : Int} {ls : List Int} {d : PyData} (h : isStand room ls d = true) : ∃ t, d = tI (stL ls t) ∧ Rise ls.length (room - ls.sum) t := by
  obtain ⟨ns, rfl, hn⟩ := isStand_ints h
  have h : (if ((iD ns).length : Int) = ls.length then standG room 0 (iD ns) ls else false) = true := h
  rw [if_pos (by rw [List.length_map, hn])] at h
  obtain ⟨y, hy⟩ : ∃ y : Nat → Int, ∀ j, y j = ns.getD j 0 - pre ls j := ⟨_, fun _ => rfl⟩
  have ht : ∀ j (h : j < ns.length), ns[j] = y j + pre ls j := fun j hj => by
    rw [hy, List.getD_eq_getElem?_getD, List.getElem?_eq_getElem hj, Option.getD_some]
    omega
  obtain ⟨a1, a2, a3, a4⟩ := standG_rise hn ht ls.length 0 0 (by omega) (by simpa using h)
  have up : ∀ i j, j + i < ls.length → y j ≤ y (j + i) := fun i => by
    induction i with
    | zero => intro j _; exact Int.le_refl _
    | succ i ih =>
      intro j hj
      have := ih j (by omega)
      have := a2 (j + i) (by omega) (by omega)
      rw [show j + (i + 1) = j + i + 1 by omega]
      omega
  refine ⟨y, ?_, ⟨fun j hj => ?_, fun j hj => ?_, fun j hj => a2 j (by omega) hj⟩⟩
  · congr 2
    apply List.ext_getElem?
    intro j
    by_cases hj : j < ls.length
    · rw [stL_get hj, List.getElem?_eq_getElem (by omega), ht j (by omega)]
    · rw [List.getElem?_eq_none (by omega), List.getElem?_eq_none (by rw [stL_len]; omega)]
  · have h0 := a1 (by omega)
    have := up j 0 (by omega)
    rw [pre_zero] at h0
    rw [Nat.zero_add] at this
    omega
  · have := a3 (by omega)
    have h2 := up (ls.length - 1 - j) j (by omega)
    rw [show j + (ls.length - 1 - j) = ls.length - 1 by omega] at h2
    omega
end PS

namespace PS
open PySem PySem.Spec PyProof.Rows L2
/-! ### data does not hold the cell of an instance -/
mutual
theorem dp_offI {K : PySem.W.Frag} {H : Hp} {k C dx : Addr} {fs : List (Str × V)} (hk : H k = some (.ins C dx fs)) : ∀ (d : PyData) (v : V), Dp K H v d → Dp K (Off k H) v d
  | .none, _, h => by cases h; exact .non
  | .bool b, _, h => by cases h; exact .bl b
  | .int i, _, h => by cases h; exact .int i
  | .str x, _, h => by cases h; exact .str x
  | .list ds, _, h => by
    cases h with
    | lst s al =>
      refine .lst ?_ (dpAll_offI hk ds _ al)
      rcases s with (s | ⟨o, s⟩) | s
      · exact .inl (.inl (off_at (ne_of s hk (by intro z; cases z)) s))
      · exact .inl (.inr ⟨o, off_at (ne_of s hk (by intro z; cases z)) s⟩)
      · exact .inr s
  | .tuple ds, _, h => by
    cases h with
    | tup s al =>
      refine .tup ?_ (dpAll_offI hk ds _ al)
      rcases s with (s | ⟨o, s⟩) | s
      · exact .inl (.inl (off_at (ne_of s hk (by intro z; cases z)) s))
      · exact .inl (.inr ⟨o, off_at (ne_of s hk (by intro z; cases z)) s⟩)
      · exact .inr s
  | .dict _, _, h => by cases h
theorem dpAll_offI {K : PySem.W.Frag} {H : Hp} {k C dx : Addr} {fs : List (Str × V)} (hk : H k = some (.ins C dx fs)) : ∀ (ds : List PyData) (vs : List V), DpAll K H vs ds → DpAll K (Off k H) vs ds
  | [], _, h => by cases h; exact .nil
  | d :: ds, _, h => by
    cases h with
    | cons h1 h2 => exact .cons (dp_offI hk d _ h1) (dpAll_offI hk ds _ h2)
end
theorem offI_upd (k : Addr) (H : Hp) (o : HO) : Same (Off k H) (upd H k o) := fun b x h => by
  unfold Off at h
  split at h
  · cases h
  · rename_i n
    rw [upd_ne n]
    exact h
theorem offI_upd2 (k : Addr) (H : Hp) (o : HO) : Same (Off k H) (Off k (upd H k o)) := off_of fun b x n h => by
  rw [upd_ne n]
  exact h
/-! ### a bench -/
abbrev benL (v1 v2 v3 v4 v5 v6 : V) : List (Str × V) := [("shelf", v1), ("now", v2), ("least", v3), ("greatest", v4), ("many", v5), ("wish", v6)]
theorem ben_put (v1 v2 v3 v4 v5 v6 : V) : putF "wish" v6 (putF "many" v5 (putF "greatest" v4 (putF "least" v3 (putF "now" v2 (putF "shelf" v1 []))))) = benL v1 v2 v3 v4 v5 v6 := rfl
theorem ben_now (v1 v2 v3 v4 v5 v6 v : V) : putF "now" v (benL v1 v2 v3 v4 v5 v6) = benL v1 v v3 v4 v5 v6 := rfl
theorem ben_least (v1 v2 v3 v4 v5 v6 v : V) : putF "least" v (benL v1 v2 v3 v4 v5 v6) = benL v1 v2 v v4 v5 v6 := rfl
theorem ben_greatest (v1 v2 v3 v4 v5 v6 v : V) : putF "greatest" v (benL v1 v2 v3 v4 v5 v6) = benL v1 v2 v3 v v5 v6 := rfl
theorem ben_many (v1 v2 v3 v4 v5 v6 v : V) : putF "many" v (benL v1 v2 v3 v4 v5 v6) = benL v1 v2 v3 v4 v v6 := rfl
theorem ben_wish (v1 v2 v3 v4 v5 v6 v : V) : putF "wish" v (benL v1 v2 v3 v4 v5 v6) = benL v1 v2 v3 v4 v5 v := rfl
end PS

namespace PS
open PySem PySem.Spec PyProof.Rows L2
/-! ### l.count(x) of data -/
def rCountD (K : PySem.W.Frag) : V → List V → Hp → VK → Prop := fun x xs H Q => ∃ (a : Addr) (y : V) (d : PyData) (ds : List PyData), x = V.ref a ∧ xs = [y] ∧ Dp K H (V.ref a) (.list ds) ∧ Dp K H y d ∧
  SeqAt.shaped (.list ds) = true ∧ SeqAt.shaped d = true ∧ d.depth ≤ 60 ∧ Q (.int (ds.countP (fun z => PyData.eqv z d) : Nat)) H
theorem mt_lcountD {X : Cx} (hu : X.A.units + 64 < cLine) : MtR X "list.count" (rCountD X.K) := by
  intro pins s σ H x xs v us Q I rx rxs h
  obtain ⟨a, y, d, ds, rfl, rfl, hl, hy, sl, sd, d60, q⟩ := h
  cases rx
  cases rxs with
  | cons ry rt =>
    rename_i uy ut
    cases rt
    obtain ⟨bs, r1⟩ := Dp.reads I d y uy hy ry
    have hxs : PyData.canLayAll0 ds = true := SeqAt.canLay_of_shaped sl
    have hroom : X.A.units + 1 + min (PyData.depthAll ds) d.depth < cLine := by
      have := Nat.min_le_right (PyData.depthAll ds) d.depth
      omega
    cases hl with
    | lst hs ha =>
      obtain ⟨its, rv, ⟨⟨cls, dd, data, sls⟩, n, ho, hc, hdn, hdt⟩, hlen⟩ := I.list hs
      simp only at hc hdt
      subst hc hdt
      obtain ⟨as, h4⟩ := Dp.readsAll I ds _ its ha rv
      have hmap : its.map (SeqAt.readOf s.heap) = ds := SeqAt.readsAll_map ds its as hxs h4
      refine call_meets PySem.F.slot_list_count ⟨_, ho, rfl⟩ PySem.F.entry_list_count (PySem.F.args_list_count_2 _ _)
        (SeqAt.list_countAt a its.toArray n dd sls uy (fun u => PyData.eqv (SeqAt.readOf s.heap u) d)) ⟨ho, SeqAt.items_eqAt (vs := its.toArray) (show ReadsAll s.heap its.toArray.toList ds as from h4) r1 hxs (SeqAt.canLay_of_shaped sd) hroom, ?_⟩
      refine ⟨.int _, H, I.tok _, ⟨_, rfl⟩, ?_⟩
      rw [← hmap, List.countP_map] at q
      exact q
theorem canLay_iD : ∀ ns : List Int, PyData.canLayAll0 (iD ns) = true
  | [] => by simp [PyData.canLayAll0]
  | n :: ns => by
    show PyData.canLayAll0 (PyData.int n :: iD ns) = true
    simp [PyData.canLayAll0, PyData.canLay0]
    exact canLay_iD ns
theorem canLay_tI (ns : List Int) : (tI ns).canLay0 = true := by
  simp [PyData.canLay0]
  exact canLay_iD ns
theorem shaped_tI (ns : List Int) : SeqAt.shaped (tI ns) = true := by
  unfold SeqAt.shaped
  rw [canLay_tI, decide_eq_true (Nat.le_trans (depth_tI ns) (by decide))]
  rfl
theorem canLay_all : ∀ ds : List PyData, (∀ d ∈ ds, d.canLay0 = true) → PyData.canLayAll0 ds = true
  | [], _ => by simp [PyData.canLayAll0]
  | d :: ds, h => by
    simp only [PyData.canLayAll0, Bool.and_eq_true]
    exact ⟨h d (by simp), canLay_all ds fun x hx => h x (by simp [hx])⟩
theorem shaped_list {ds : List PyData} (h : ∀ d ∈ ds, d.canLay0 = true ∧ d.depth ≤ 63) : SeqAt.shaped (.list ds) = true := by
  unfold SeqAt.shaped
  have e1 : (PyData.list ds).canLay0 = true := by
    simp only [PyData.canLay0]
    exact canLay_all ds fun d hd => (h d hd).1
  have e2 : (PyData.list ds).depth ≤ 64 := by
    rw [PyData.depth]
    have := depthAll_le (n := 63) ds fun d hd => (h d hd).2
    omega
  rw [e1, decide_eq_true e2]
  rfl
end PS

namespace PS
open PySem PySem.Spec PyProof.Rows L2
theorem tuple_mul1 (l : Addr) (items : Array Value) (n : Nat) (dd : Option Addr) (sl : Array (Option Value)) (u : Tok) :
    Meets (Builtin.«tuple.__mul__» ⟨[.ref l, .int 1 u], []⟩) (fun _ R s => s.heap.get? l = some { cls := .type "tuple", dict := dd, data := .seq items n, slots := sl } ∧
      R (.ok (.ret (Value.ref l))) s) :=
  .of_wp fun prog w A R s h => by
    obtain ⟨hp, g, d, tk, os⟩ := s
    obtain ⟨hl, h⟩ := h
    have f1 := AutoSeq1.idx_int
    have c0 : (decide ((1 : Int) < -(2 ^ 63)) || decide ((1 : Int) ≥ 2 ^ 63)) = false := by decide
    have c1 : (items.isEmpty || (1 : Int) == 1) = true := by simp
    wp_walk using wpAny_loadPart' hl
    repeat (first
      | (refine wpAny_ite_false (decide_eq_false (by rw [c0]; exact Bool.false_ne_true)) ?_; wp_walk using wpAny_loadPart' hl)
      | (refine wpAny_ite_true (decide_eq_true c1) ?_; wp_walk using wpAny_loadPart' hl))
    exact ⟨_, rfl, h⟩
def rRepA (K : PySem.W.Frag) : R2 := fun x y H Q => ∃ l k xs, x = .ref l ∧ y = .int k ∧ SqT K H l xs ∧ xs ≠ [] ∧ 1 ≤ k ∧ k ≤ 1000 ∧ xs.length ≤ 1000 ∧ (k = 1 → Q (.ref l) H) ∧ ∀ p, H p = none → Q (.ref p) (upd H p (.tup (List.replicate k.toNat xs).flatten))
theorem op_repA {X : Cx} : OpR X (binaryOp .Mult) (rRepA X.K) := by
  intro pins s σ H x y v u Q I rx ry h
  obtain ⟨l, k, xs, rfl, rfl, hT, hne, h1, h2, hz, q1, q⟩ := h
  by_cases c : 2 ≤ k
  · exact op_repT pins s σ H _ _ v u Q I rx ry ⟨l, k, xs, rfl, rfl, hT, hne, c, h2, hz, q⟩
  · have ek : k = 1 := by omega
    subst ek
    cases rx
    obtain ⟨t, rfl⟩ := ry
    obtain ⟨its, r, ⟨⟨cls, dd, data, sl⟩, ho, hc, n, hd⟩, hs⟩ := I.tuple hT
    simp only at hc hd
    subst hc hd
    refine wpAny_binaryOp_repeat_ref (T := "tuple") (U := "int") (by decide) ⟨_, ho, rfl⟩ (fun s' => typeIs_int s' 1 t) noFill_tuple_mul F.fills_int_mul F.slot_int_rmul repeat_tuple F.slot_int_index.lookup
      (call_meets F.slot_int_rmul (typeIs_int s 1 t) F.entry_int_rmul (F.args_int_rmul_2 _ _) (int_rmul_tuple 1 t l its.toArray n dd sl)
        ⟨ho, rfl, ⟨_, ho, rfl⟩, call_meets F.slot_tuple_mul ⟨_, ho, rfl⟩ F.entry_tuple_mul (F.args_tuple_mul_2 _ _) (tuple_mul1 l its.toArray n dd sl t) ⟨ho, ?_⟩⟩)
    exact ⟨.ref l, H, I, rfl, q1 rfl⟩
end PS

/-! While an exception is handled: the ends of walks (zip of two lists, a tuple unpacked). -/
namespace HT
open PySem PySem.Spec PyProof.Rows HotX
section
variable {prog : Program} {w : World} {A : Around} {E : Value → Shared → Prop} {s : Shared}
theorem fresh1 (h : Heap) (o : Obj) : h.get? (h.push o).objs.size = none := by
  cases z : h.get? (h.push o).objs.size with
  | none => rfl
  | some o' =>
    have y := Heap.lt_size z
    rw [Heap.size_push] at y
    exact (Nat.not_succ_lt_self y).elim
/-- a new StopIteration, as it stands before it is raised -/
theorem stopMade {M : Model} {Q : Value → Shared → Prop} (q : ∀ h' e oe vs, (∀ b o, s.heap.get? b = some o → h'.get? b = some o) → s.heap.get? e = none → h'.get? e = some oe → oe.cls = .type "StopIteration" → oe.data = .fields vs → 2 < vs.size → Q (.ref e) { s with heap := h' }) :
    wpAny M A (newExc (.type "StopIteration") []) Q E s := by
  simp only [newExc, newTuple]
  refine wpAny_bind (wpAny_newObj_type ?_ (by size_fits))
  refine wpAny_bind (m := firstArgMember _ _) (wpAny_of_eq (a := Value.none) (by first | rfl | (simp only [firstArgMember]; rfl)) ?_)
  refine wpAny_newObj_type (q _ _ _ _ (fun b o z => Heap.get?_push_of_some _ (Heap.get?_push_of_some _ z)) ?_ (Heap.get?_push_size _ rfl) rfl rfl (by first | (simp; done) | (simp; omega) | (simp only [Array.size_append]; simp; omega))) (by size_fits)
  exact fresh1 _ _
/-- .. and as it is raised while x1 is handled -/
theorem stopHot {α : Type} {x1 : Addr} {Q : α → Shared → Prop} (hot : HotAt A x1 s.heap)
    (q : ∀ h' e, (∀ b o, s.heap.get? b = some o → h'.get? b = some o) → (∃ o, h'.get? e = some o ∧ o.cls = .type "StopIteration") → E (.ref e) { s with heap := h' }) :
    wpAny (model prog w) A (newExc (.type "StopIteration") [] >>= fun v => (raiseNew v : Sem α)) Q E s := by
  refine wpAny_bind (stopMade fun h' e oe vs k n he hc hd hz => ?_)
  obtain ⟨hh, o1, v1, g1, d1, c1⟩ := hot
  have ne : x1 ≠ e := fun z => by
    rw [z, n] at g1
    cases g1
  refine raiseNew_hot ⟨hh, o1, v1, k _ _ g1, d1, c1⟩ ne he hd hz (q _ e (fun b o z => ?_) ⟨_, Heap.get?_update_self _ he (Obj.isFreed_of_fields (Obj.data_mapFields hd _)), (Obj.cls_mapFields ..).trans hc⟩)
  have nb : e ≠ b := fun y => by
    rw [← y, n] at z
    cases z
  rw [Heap.get?_update_other _ _ nb]
  exact k b o z
theorem hotAt_up {x1 : Addr} {h h' : Heap} (hot : HotAt A x1 h) (k : ∀ o, h.get? x1 = some o → h'.get? x1 = some o) : HotAt A x1 h' := by
  obtain ⟨hh, o1, v1, g1, d1, c1⟩ := hot
  exact ⟨hh, o1, v1, k _ g1, d1, c1⟩
/-- the handled exception is no iterator -/
theorem hot_ne {x1 b : Addr} {h : Heap} {o : Obj} (hot : HotAt A x1 h) (e : h.get? b = some o) (d : ∀ vs : Array Value, o.data = .fields vs → vs[2]? ≠ some .none) : x1 ≠ b := by
  obtain ⟨hh, o1, v1, g1, d1, c1⟩ := hot
  intro z
  rw [z, e] at g1
  cases g1
  exact d v1 d1 c1
theorem listEndHot {it l x1 : Addr} {i : Nat} {items : Array Value} {Q : Value → Shared → Prop} (hot : HotAt A x1 s.heap) (hit : s.heap.IsListIter it l i) (hl : s.heap.IsList l items) (hx : items[i]? = none)
    (q : ∀ h' e, Heap.ExtBut it s.heap h' → (∃ o, h'.get? e = some o ∧ o.cls = .type "StopIteration") → E (.ref e) { s with heap := h' }) : wpAny (model prog w) A (Builtin.SmallTypes.nextOf (.ref it)) Q E s := by
  obtain ⟨o, ho, hc, hd⟩ := id hit
  obtain ⟨ol, hol, _, nl, hdl⟩ := hl
  have ne : x1 ≠ it := hot_ne hot ho fun vs z => by
    rw [hd] at z
    cases z
    simp
  unfold Builtin.SmallTypes.nextOf
  refine wpAny_bind (wpAny_callSpecial?_slot (name := Str.ofString "__next__") hit.typeIs slot_listiter_next (wpAny_call_entry slot_listiter_next hit.typeIs entry_listiter_next ?_ (args_listiter_next _)))
  show wpAny (model prog w) A.in1 (field (.ref it) 0 >>= _) _ E s
  refine wpAny_bind (wpAny_field ho hd (x := .ref l) rfl ?_)
  show wpAny (model prog w) A.in1 (if (Value.ref l == Value.none) = true then _ else _) _ E s
  rw [if_neg (show ¬ (Value.ref l == Value.none) = true from fun z => nomatch z)]
  show wpAny (model prog w) A.in1 (field (.ref it) 1 >>= _) _ E s
  refine wpAny_bind (wpAny_field ho hd (x := .int i 0) rfl ?_)
  show wpAny (model prog w) A.in1 (seqItems? (.ref l) >>= _) _ E s
  refine wpAny_bind (wpAny_seqItems hol hdl ?_)
  simp only [Int.toNat_natCast, hx]
  refine wpAny_bind (wpAny_rule (wpAny_bind (wpAny_setField ho hd (by simp) (stopHot (x1 := x1) ?_ fun h' e k he => q h' e (fun b o' nb z => k b o' ?_) he))))
  · exact hotAt_up hot fun o' z => (Heap.get?_update_other _ _ ne.symm).trans z
  · exact (Heap.get?_update_other _ _ (Ne.symm nb)).trans z
theorem zipEndHot {z TI TO i1 i2 l1 l2 x1 : Addr} {k1 k2 : Nat} {xs ys : Array Value} {a b : Value} {Q : Option Value → Shared → Prop} (hot : HotAt A x1 s.heap) (D : ZipApart z TI TO i1 i2 l1 l2)
    (hz : IsZip s.heap z TI TO .none) (hI : IsPair s.heap TI (.ref i1) (.ref i2)) (hO : IsPair s.heap TO a b) (h1 : s.heap.IsListIter i1 l1 k1) (h2 : s.heap.IsListIter i2 l2 k2) (g1 : s.heap.IsList l1 xs) (g2 : s.heap.IsList l2 ys) (en : xs[k1]? = none ∨ ys[k2]? = none)
    (q : ∀ h', (∀ c o, c ≠ z → c ≠ TO → c ≠ i1 → c ≠ i2 → s.heap.get? c = some o → h'.get? c = some o) → Q none { s with heap := h' }) : wpAny (model prog w) A (pyNext (.ref z)) Q E s := by
  have tz : s.TypeIs (.ref z) "zip" := ⟨_, hz, rfl⟩
  have nz : x1 ≠ z := hot_ne hot hz fun vs y => by
    cases y
    simp
  have nO : x1 ≠ TO := hot_ne hot hO fun vs y => by cases y
  have n1 : x1 ≠ i1 := by
    obtain ⟨o, ho, _, hd⟩ := id h1
    exact hot_ne hot ho fun vs y => by
      rw [hd] at y
      cases y
      simp
  unfold pyNext
  -- what the raising leaves
  have fin : ∀ (h' : Heap) (e : Addr), (∀ c o, c ≠ z → c ≠ TO → c ≠ i1 → c ≠ i2 → s.heap.get? c = some o → h'.get? c = some o) → (∃ o, h'.get? e = some o ∧ o.cls = .type "StopIteration") →
      wpAny (model prog w) A (do
        if ← isInstance (.ref e) (.type "StopIteration") then pure none
        else throw (.ref e)) Q E { s with heap := h' } := fun h' e k ⟨o, ho, hc⟩ => by
    refine wpAny_bind (wpAny_isInstance (T := "StopIteration") (b := true) ⟨o, ho, hc⟩ isSubtype_stop ?_)
    exact wpAny_pure (q _ k)
  refine wpAny_bind (wpAny_attempt (wpAny_callSpecial?_slot (name := Str.ofString "__next__") tz F.slot_zip_next (wpAny_call_entry F.slot_zip_next tz F.entry_zip_next ?_ (F.args_zip_next_1 _))))
  show wpAny (model prog w) A.in1 (field (.ref z) 2 >>= _) _ _ s
  refine wpAny_bind (wpAny_field hz rfl (x := .bool false) rfl ?_)
  show wpAny (model prog w) A.in1 (field (.ref z) 3 >>= _) _ _ s
  refine wpAny_bind (wpAny_field hz rfl (x := .ref TI) rfl (wpAny_bind (wpAny_seqItems hI rfl ?_)))
  show wpAny (model prog w) A.in1 (Builtin.SmallTypes.ownedTupleIsFree (.ref z) >>= _) _ _ s
  refine wpAny_bind ?_
  unfold Builtin.SmallTypes.ownedTupleIsFree
  refine wpAny_bind (wpAny_field hz rfl (x := .none) rfl (wpAny_pure ?_))
  simp only [if_true]
  refine wpAny_bind (wpAny_rule (wpAny_bind (wpAny_field hz rfl (x := .ref TO) rfl (wpAny_bind (wpAny_setField_rec hz (by simp) fun j1 hz1 e1 => wpAny_bind ?_)))))
  replace hz1 : IsZip j1 z TI TO .ellipsis := hz1
  have hot1 : HotAt A x1 j1 := hotAt_up hot fun o y => e1.extBut _ _ nz y
  simp only [List.zipIdx_cons, List.zipIdx_nil, List.forIn_cons, List.forIn_nil]
  refine wpAny_bind (wpAny_bind (wpAny_onRaise ?_))
  show wpAny (model prog w) A.in1 (Builtin.SmallTypes.nextOf (.ref i1) >>= _) _ _ _
  cases hx : xs[k1]? with
  | none =>
    refine wpAny_bind (listEndHot (x1 := x1) hot1 (h1.extBut e1.extBut D.i1z) (g1.extBut e1.extBut D.l1z) hx fun j2 e e2 he => ?_)
    obtain ⟨oe, hoe, hce⟩ := he
    have hz2 : IsZip j2 z TI TO .ellipsis := e2 _ _ D.i1z.symm hz1
    have ez : e ≠ z := fun y => by
      rw [y, hz2] at hoe
      cases hoe
      simp at hce
    exact wpAny_setField_rec hz2 (by simp) fun j3 _ e3 => fin j3 e (fun c o c1 _ c3 _ y => e3.extBut _ _ c1 (e2 _ _ c3 (e1.extBut _ _ c1 y))) ⟨oe, e3.extBut _ _ ez hoe, hce⟩
  | some x =>
    have hy : ys[k2]? = none := en.resolve_left fun y => by
      rw [hx] at y
      cases y
    refine wpAny_bind (wpAny_nextOf_list_item (h1.extBut e1.extBut D.i1z) (g1.extBut e1.extBut D.l1z) hx fun j2 _ e2 => wpAny_pure ?_)
    have hO2 : IsPair j2 TO a b := e2.extBut _ _ D.TOi1 (e1.extBut _ _ D.TOz hO)
    refine wpAny_bind (wpAny_seqItems hO2 rfl (wpAny_bind (wpAny_updateSeq_pair hO2 fun j3 hO3 e3 => wpAny_bind (wpAny_letGo (wpAny_pure (wpAny_bind (wpAny_bind (wpAny_onRaise ?_))))))))
    show wpAny (model prog w) A.in1 (Builtin.SmallTypes.nextOf (.ref i2) >>= _) _ _ _
    have hot3 : HotAt A x1 j3 := hotAt_up hot1 fun o y => e3.extBut _ _ nO (e2.extBut _ _ n1 y)
    have i2' := ((h2.extBut e1.extBut D.i2z).extBut e2.extBut D.i12.symm).extBut e3.extBut D.TOi2.symm
    have g2' := ((g2.extBut e1.extBut D.l2z).extBut e2.extBut D.l2i1).extBut e3.extBut D.l2TO
    refine wpAny_bind (listEndHot (x1 := x1) hot3 i2' g2' hy fun j4 e e4 he => ?_)
    obtain ⟨oe, hoe, hce⟩ := he
    have hz4 : IsZip j4 z TI TO .ellipsis := e4 _ _ D.i2z.symm (e3.extBut _ _ D.TOz.symm (e2.extBut _ _ D.i1z.symm hz1))
    have ez : e ≠ z := fun y => by
      rw [y, hz4] at hoe
      cases hoe
      simp at hce
    exact wpAny_setField_rec hz4 (by simp) fun j5 _ e5 => fin j5 e (fun c o c1 c2 c3 c4 y => e5.extBut _ _ c1 (e4 _ _ c4 (e3.extBut _ _ c2 (e2.extBut _ _ c3 (e1.extBut _ _ c1 y))))) ⟨oe, e5.extBut _ _ ez hoe, hce⟩
theorem tupEndHot {it t x1 : Addr} {i : Nat} {items : Array Value} {Q : Option Value → Shared → Prop} (hot : HotAt A x1 s.heap) (hit : IsTupIter s.heap it t i) (ht : IsTup s.heap t items) (hx : items[i]? = none)
    (q : ∀ h', Heap.ExtBut it s.heap h' → Q none { s with heap := h' }) : wpAny (model prog w) A (pyNext (.ref it)) Q E s := by
  obtain ⟨o, ho, hc, hd⟩ := id hit
  obtain ⟨ol, hol, _, nl, hdl⟩ := ht
  have ne : x1 ≠ it := hot_ne hot ho fun vs z => by
    rw [hd] at z
    cases z
    simp
  unfold pyNext
  refine wpAny_bind (wpAny_attempt (wpAny_callSpecial?_slot (name := Str.ofString "__next__") hit.typeIs slot_tupleiter_next (wpAny_call_entry slot_tupleiter_next hit.typeIs entry_tupleiter_next ?_ (args_tupleiter_next _))))
  show wpAny (model prog w) A.in1 (field (.ref it) 0 >>= _) _ _ s
  refine wpAny_bind (wpAny_field ho hd (x := .ref t) rfl ?_)
  show wpAny (model prog w) A.in1 (if (Value.ref t == Value.none) = true then _ else _) _ _ s
  rw [if_neg (show ¬ (Value.ref t == Value.none) = true from fun z => nomatch z)]
  show wpAny (model prog w) A.in1 (field (.ref it) 1 >>= _) _ _ s
  refine wpAny_bind (wpAny_field ho hd (x := .int i 0) rfl ?_)
  show wpAny (model prog w) A.in1 (seqItems? (.ref t) >>= _) _ _ s
  refine wpAny_bind (wpAny_seqItems hol hdl ?_)
  simp only [Int.toNat_natCast, hx]
  refine wpAny_bind (wpAny_rule (wpAny_bind (wpAny_setField ho hd (by simp) (stopHot (x1 := x1) ?_ fun h' e k he => ?_))))
  · exact hotAt_up hot fun o' z => (Heap.get?_update_other _ _ ne.symm).trans z
  · obtain ⟨oe, hoe, hce⟩ := he
    refine wpAny_bind (wpAny_isInstance (T := "StopIteration") (b := true) ⟨oe, hoe, hce⟩ isSubtype_stop ?_)
    exact wpAny_pure (q _ fun b o' nb z => k b o' ((Heap.get?_update_other _ _ (Ne.symm nb)).trans z))
theorem unpackHot {t x1 : Addr} {items : Array Value} {Q : List Value → Shared → Prop} (hot : HotAt A x1 s.heap) (ht : IsTup s.heap t items) (q : ∀ h', Heap.ExtBut s.heap.objs.size s.heap h' → Q items.toList { s with heap := h' }) :
    wpAny (model prog w) A (unpackItems (.ref t) items.size none) Q E s := by
  obtain ⟨ot, got, _⟩ := id ht
  have lt : t ≠ s.heap.objs.size := Nat.ne_of_lt (Heap.lt_size got)
  obtain ⟨_, o1, _, gx, _, _⟩ := id hot
  have lx : x1 ≠ s.heap.objs.size := Nat.ne_of_lt (Heap.lt_size gx)
  unfold unpackItems
  refine wpAny_bind ?_
  unfold notIterableAtAll
  refine wpAny_bind (wpAny_specialOf ht.typeIs slot_tuple_iter.lookup (wpAny_pure ?_))
  simp only [Bool.false_eq_true, if_false]
  refine wpAny_bind (wpAny_holding (iter_tuple ht (wpAny_bind (wpAny_holding (draw_tuple lt items.size 0 _ _ ⟨_, Heap.get?_push_size _ rfl, rfl, rfl⟩ (ht.push _) (by omega) fun j1 it1 e1 => ?_)))))
  rw [List.drop_zero, List.take_of_length_le (show items.toList.length ≤ items.size by simp), if_neg (by simp)]
  have ht1 : IsTup j1 t items := (ht.push _).extBut e1.extBut lt
  have hot1 : HotAt A x1 j1 := hotAt_up hot fun o z => e1.extBut _ _ lx (Heap.get?_push_of_some _ z)
  refine wpAny_bind (wpAny_holding (tupEndHot (x1 := x1) hot1 it1 ht1 (by simp) fun j2 e2 => ?_))
  simp only [Option.isSome_none, Bool.false_eq_true, if_false]
  exact wpAny_pure (q j2 fun b o nb z => e2 b o nb (e1.extBut b o nb (Heap.get?_push_of_some _ z)))
theorem assignHot {env : Env} {elts : List Expr} {k1} {pos : Pos} {t x1 : Addr} {items : Array Value} {Q : Unit → Shared → Prop} (hot : HotAt A x1 s.heap) (ht : IsTup s.heap t items) (hn : (assignEach elts env).length = items.size) (hst : (assignEach elts env).findIdx? (·.1) = none)
    (q : ∀ h', Heap.ExtBut s.heap.objs.size s.heap h' → wpAny (model prog w) A (assignInOrder ((assignEach elts env).map (·.2)) items.toList) Q E { s with heap := h' }) : wpAny (model prog w) A (assign (.Tuple elts k1 pos) env (.ref t)) Q E s := by
  rw [assign_Tuple]
  refine wpAny_bind (wpAny_standAt ?_)
  unfold unpack
  rw [hn, hst]
  exact wpAny_bind (wpAny_holding (unpackHot hot ht q))
end
end HT

/-! Rules for a def that is called while an exception is handled: unpacking, zip, a list comprehension, isinstance of the handled exception. -/
namespace HT
open PySem PySem.Spec PyProof.Rows L2 HotX L2H
section
variable {X : Cx}
theorem pg_tupH {es : List Expr} {k : Nat} {t : TGs} {n : Nat} {pos : Pos} (hot : HotC X) (pg : PGs X es t) (hn : (assignEach es X.env).length = n := by rfl) (hst : (assignEach es X.env).findIdx? (·.1) = none := by rfl) :
    PG X (.Tuple es k pos) (gTup X.K n t) := by
  refine ⟨fun pins s σ H v u Q I r hw => ?_⟩
  obtain ⟨a, xs, rfl, ha, hl, hw⟩ := hw
  cases r
  obtain ⟨its, rv, ht, _⟩ := I.tuple ha
  obtain ⟨x1, at1⟩ := hot.at I
  refine assignHot at1 ht (by simp [hn, ← hl, rv.length]) hst fun h' k' => ?_
  refine pg.run pins _ σ H xs _ Q (I.kept (t' := s.toks) fun b o e => k' b o (Nat.ne_of_lt (Heap.lt_size e)) e) (by simpa using rv) hw
theorem zipTurnHot {P : Program} {w : World} {K : PySem.W.Frag} {es : List Expr} {kk : Nat} {tp : Pos} {a b z TI TO i1 i2 : Addr} (D : ZipApart z TI TO i1 i2 a b) :
    TurnH P w K (.Tuple es kk tp) (Itz K a b) [z, TI, TO, i1, i2] z (fun i h => IsZip h z TI TO .none ∧ IsPair h TI (.ref i1) (.ref i2) ∧ (∃ x y, IsPair h TO x y) ∧ h.IsListIter i1 a i ∧ h.IsListIter i2 b i) := by
  have T0 := turn_zip (P := P) (w := w) (K := K) (elts := es) (kk := kk) (tpos := tp) D
  refine ⟨T0.mem, T0.obj, T0.keep, ?_, ?_, T0.self⟩
  · intro X eP ew eK hc i pins s σ H E I hf st hg
    subst eP ew eK
    obtain ⟨st1, st2, ⟨x0, y0, st3⟩, st4, st5⟩ := st
    obtain ⟨xs, ys, x, y, qx, qy, gx, gy⟩ := hg
    obtain ⟨vs, rv, p, _⟩ := I.list qx
    obtain ⟨ws, rw', p2, _⟩ := I.list qy
    obtain ⟨u, gu, ru⟩ := rv.get gx
    obtain ⟨u2, gu2, ru2⟩ := rw'.get gy
    have lz : z < s.heap.objs.size := Heap.lt_size st1
    have nin : ∀ {c : Addr}, c ∉ [z, TI, TO, i1, i2] → c ≠ z ∧ c ≠ TI ∧ c ≠ TO ∧ c ≠ i1 ∧ c ≠ i2 := fun {c} h => by simpa using h
    refine wpAny_pyNext_zip_item D st1 st2 st3 st4 st5 p.isList p2.isList (x := u) (y := u2) (by simpa using gu) (by simpa using gu2) fun j1 e1 e3 e4 e5 e6 ez kj => ?_
    refine ⟨_, rfl, wpAny_letOwnedTupleGo_zip (s := { s with heap := j1 }) e1 fun j2 f1 sb => ?_⟩
    have tup : j2.get? s.heap.objs.size = some { cls := .type "tuple", data := .seq #[u, u2] } := (sb.2 _ (Nat.ne_of_gt lz)).trans e6
    have obj : ObjOk X.prog X.w (upd H s.heap.objs.size (.tup [x, y])) j2 s.heap.objs.size (.tup [x, y]) := ⟨by show 2 ≤ sizeLine; decide, [u, u2], .cons ru (.cons ru2 .nil), ⟨_, tup, rfl, _, rfl⟩⟩
    have I1 := I.turnedNew (t' := s.toks) (ch := [z, TI, TO, i1, i2]) (fun c o hb g => (sb.2 c (nin hb).1).trans (kj c o (nin hb).1 (nin hb).2.2.1 (nin hb).2.2.2.1 (nin hb).2.2.2.2 g)) hf (Nat.le_refl _) obj
    refine ⟨.ref s.heap.objs.size, _, I1, rfl, ⟨_, x, y, rfl, I.hok.fresh (Nat.le_refl _), rfl, fun l hl => by rw [I.list_inj hl qx]; exact gx, fun l hl => by rw [I.list_inj hl qy]; exact gy⟩,
      ⟨f1, (sb.2 _ D.TIz).trans (kj _ _ D.TIz D.TITO D.TIi1 D.TIi2 st2), ⟨u, u2, (sb.2 _ D.TOz).trans e3⟩, e4.at fun o g => (sb.2 _ D.i1z).trans g, e5.at fun o g => (sb.2 _ D.i2z).trans g⟩, fun c hc' => ?_⟩
    obtain ⟨o, g, _⟩ := T0.obj i s.heap ⟨st1, st2, ⟨x0, y0, st3⟩, st4, st5⟩ c hc'
    rw [upd_ne (Nat.ne_of_lt (Heap.lt_size g))]
    exact (hf c hc').1
  · intro X eP ew eK hc i pins s σ H E I hf st hg
    subst eP ew eK
    obtain ⟨st1, st2, ⟨x0, y0, st3⟩, st4, st5⟩ := st
    obtain ⟨xs, ys, qx, qy, en⟩ := hg
    obtain ⟨vs, rv, p, _⟩ := I.list qx
    obtain ⟨ws, rw', p2, _⟩ := I.list qy
    obtain ⟨x1, at1⟩ := hc.at I
    have en' : vs.toArray[i]? = none ∨ ws.toArray[i]? = none := by
      have l1 := rv.length
      have l2 := rw'.length
      rcases en with g | g
      · exact .inl (by simp; omega)
      · exact .inr (by simp; omega)
    have nin : ∀ {c : Addr}, c ∉ [z, TI, TO, i1, i2] → c ≠ z ∧ c ≠ TI ∧ c ≠ TO ∧ c ≠ i1 ∧ c ≠ i2 := fun {c} h => by simpa using h
    exact zipEndHot at1 D st1 st2 st3 st4 st5 p.isList p2.isList en' fun j kj => ⟨rfl, I.turnedL (t' := s.toks) (ch := [z, TI, TO, i1, i2]) (fun c o hb g => kj c o (nin hb).1 (nin hb).2.2.1 (nin hb).2.2.2.1 (nin hb).2.2.2.2 g) hf⟩
theorem pi_zipH {e e2 : Expr} {ta : TA} {p pos tp : Pos} {es : List Expr} {kk : Nat} (hg : Gl X "zip") (hm : X.mg "zip" = none) (ha : PA X [e, e2] ta)
    (hs : starEach [e, e2] X.env = (false, eval e X.env) :: starEach [e2] X.env := by rfl) (hpl : (backTo pos (starEach [e2] X.env)).any (·.1) = false := by rfl) :
    PIH X (.Tuple es kk tp) (.Call (.Name "zip" p) [e, e2] [] pos) (iZip X.K ta) := by
  refine ⟨fun pins s σ H R I h => ?_⟩
  refine Call_ (ld_blt I hg hm PyProof.Rows.boot_zip (PyProof.Rows.callWith_type1 (thn (ha.run pos pins s σ H _ I h) fun us s1 ⟨vs, H1, I1, rr, a, b, xs, ys, ex, qx, qy, q⟩ => ?_) hs hpl))
  subst ex
  obtain ⟨u1, u2, rfl, rfl, rfl⟩ : ∃ u1 u2, us = [u1, u2] ∧ u1 = Value.ref a ∧ u2 = Value.ref b := by
    cases rr with
    | cons r1 rr =>
      cases rr with
      | cons r2 rr =>
        cases rr
        exact ⟨_, _, rfl, r1, r2⟩
  obtain ⟨_, _, p1, _⟩ := I1.list qx
  obtain ⟨_, _, p2, _⟩ := I1.list qy
  refine call_zip_2 p1.isList p2.isList fun j g1 g2 g3 g4 g5 gz kj => wpAny_pyIter_zip g1 ?_
  refine ⟨s1.heap.objs.size + 4, [s1.heap.objs.size + 4, s1.heap.objs.size + 2, s1.heap.objs.size + 3, s1.heap.objs.size, s1.heap.objs.size + 1], _, _, H1, rfl, I1.kept (t' := s1.toks) kj, zipTurnHot (PySem.W.ktu_apart s1.heap.objs.size a b p1.lt p2.lt), ⟨g1, g2, ⟨_, _, g3⟩, g4, g5⟩, fun c hc => ?_, q⟩
  have le : s1.heap.objs.size ≤ c := by
    have y : c = s1.heap.objs.size + 4 ∨ c = s1.heap.objs.size + 2 ∨ c = s1.heap.objs.size + 3 ∨ c = s1.heap.objs.size ∨ c = s1.heap.objs.size + 1 := by simpa using hc
    rcases y with y | y | y | y | y <;> rw [y] <;> first | exact Nat.le_refl _ | exact Nat.le_add_right _ _
  exact I1.fpOk le (I1.hok.fresh le)
/-- the block of a comprehension, the pinned ones of the def in it -/
abbrev hblk (X : Cx) (s : Shared) (H : Hp) (scope : Scope) (ce : Env) (fp : List Addr) : Cx := { X.blk s H scope ce fp with pn := X.pn }
theorem HotC.blk (h : HotC X) {s : Shared} {H : Hp} {scope : Scope} {ce : Env} {fp : List Addr} : HotC (hblk X s H scope ce fp) := h
theorem inv_hblk {s0 s : Shared} {H0 H : Hp} {scope : Scope} {ce : Env} {fp : List Addr} {σ : L2.St} (I : Inv (X.blk s0 H0 scope ce fp) [] σ H s) (hp : ∀ p ∈ X.pn, s.heap.get? p.1 = some p.2 ∧ H p.1 = none ∧ p.1 ≠ ce.locals ∧ p.1 ∉ frs X.stack ∧ ∀ v, p.2.data ≠ .cell v) :
    Inv (hblk X s0 H0 scope ce fp) [] σ H s :=
  ⟨⟨I.ok.mod, I.ok.kind, I.ok.glob, I.ok.blt, I.ok.above, I.ok.inj, I.ok.has, I.ok.cab, I.ok.hd, I.ok.frames, I.ok.stk, I.ok.exf, I.ok.bs, I.ok.bsz, I.ok.noex, I.ok.exfs, I.ok.funs, I.ok.frf⟩, I.os, I.bare, I.base, I.loc, I.cell, I.free, I.freeC,
    fun p hq => hp p (by rw [List.append_nil] at hq; exact hq), I.hok, I.len⟩
/-- a list comprehension there -/
theorem pe_lcH {elt tg iter : Expr} {ifs : List Expr} {scope : Scope} {own : List (Str × Nat)} {pos : Pos} {wi : TI} {g : TG} {tt : TT} {te : TE} (hot : HotC X) (nd : X.N.Nodup) (hi : PIH X tg iter wi) (ok : BlkOk X.N X.env.scope scope own)
    (pg : ∀ (s : Shared) (H : Hp) (C : Addr) (cl : List (Str × Addr)) (fp : List Addr), PG (hblk X s H scope (compEnvC scope cl C X.env) fp) tg g) (pt : ∀ (s : Shared) (H : Hp) (C : Addr) (cl : List (Str × Addr)) (fp : List Addr), PTs (hblk X s H scope (compEnvC scope cl C X.env) fp) ifs tt)
    (pe : ∀ (s : Shared) (H : Hp) (C : Addr) (cl : List (Str × Addr)) (fp : List Addr), PE (hblk X s H scope (compEnvC scope cl C X.env) fp) elt te) (hs : ∀ x, foldedSetIterable iter X.env x = pure x := by intro _; rfl) :
    PE X (.ListComp elt [⟨tg, iter, ifs, 0⟩] scope pos) (tLc wi g tt te (own.map (·.2))) := by
  refine ⟨fun pins s σ H Q I h => ?_⟩
  rw [eval_ListComp]
  have hfree : ∀ y ∈ scope.names, y.2 = .free → ∃ c, X.env.cells.lookup y.1 = some c := fun y hy e => (ok.free y hy e).elim (fun k => I.ok.has _ (.inl k)) fun k => I.ok.has _ (.inr k)
  refine wpAny_comprehension_free (use := none) rfl hs (closure_ok hfree) ok.kind (fun y hy e => (ok.uniq y hy).trans (congrArg some e)) (thn (hi.run pins s σ H _ I h) fun xv s1 hx => thn hx fun itv s2 h2 => ?_)
  obtain ⟨it, fp, tn, J, H2, rfl, I2, T, t2, f2, q⟩ := h2
  refine wpAny_newObj_type (newEnv_comp ?_) (by show 0 ≤ sizeLine; decide)
  generalize eD : s2.heap.objs.size = D
  have nD : H2 D = none := I2.hok.fresh (Nat.le_of_eq eD)
  obtain ⟨W, ⟨m0, w0⟩, turn⟩ := q D nD
  generalize e3 : ({ s2 with heap := s2.heap.push { cls := .type "list", data := .seq ([] : List Value).toArray } } : Shared) = s3
  have h3 : s3.heap = s2.heap.push { cls := .type "list", data := .seq ([] : List Value).toArray } := by rw [← e3]
  have I3 : Inv X pins σ (upd H2 D (.lst [])) s3 := by
    rw [← e3]
    refine I2.laid (t' := s2.toks) (fun b o e => Heap.get?_push_of_some _ e) (Nat.le_of_eq eD) ⟨Nat.zero_le _, [], 0, .nil, ?_⟩
    rw [← eD]
    exact Heap.get?_push_size _ rfl
  have f3 : ∀ b ∈ fp, FpOk X pins (upd H2 D (.lst [])) b ∧ b < s3.heap.objs.size := fun b hb => by
    obtain ⟨o, e, _⟩ := T.obj _ _ t2 b hb
    have lt := Heap.lt_size e
    refine ⟨⟨?_, (f2 b hb).2⟩, by rw [h3, Heap.size_push]; exact Nat.lt_succ_of_lt lt⟩
    rw [upd_ne (by rw [← eD]; exact Nat.ne_of_lt lt)]
    exact (f2 b hb).1
  have t3 : tn 0 s3.heap := T.keep _ _ _ t2 fun b _ o e => by rw [h3]; exact Heap.get?_push_of_some _ e
  have I4 := block_start I3 ok nd f3
  have pg := pg s3 (upd H2 D (.lst [])) s3.heap.objs.size (cellsFrom (s3.heap.objs.size + 1) scope.names (cloFrom X.env.cells scope.names [])) fp
  have pt := pt s3 (upd H2 D (.lst [])) s3.heap.objs.size (cellsFrom (s3.heap.objs.size + 1) scope.names (cloFrom X.env.cells scope.names [])) fp
  have pe := pe s3 (upd H2 D (.lst [])) s3.heap.objs.size (cellsFrom (s3.heap.objs.size + 1) scope.names (cloFrom X.env.cells scope.names [])) fp
  show codeAny (model X.prog X.w) X.A (.compStart (.ListComp elt [⟨tg, iter, ifs, 0⟩] scope pos) 0 (.ref it) (.ref D) (compEnvC scope (cellsFrom (s3.heap.objs.size + 1) scope.names (cloFrom X.env.cells scope.names [])) s3.heap.objs.size X.env)) _ { s3 with heap := pushCells (s3.heap.push { cls := .type "dict", data := .dict #[] }) scope.names }
  generalize ece : compEnvC scope (cellsFrom (s3.heap.objs.size + 1) scope.names (cloFrom X.env.cells scope.names [])) s3.heap.objs.size X.env = ce at I4 pg pt pe ⊢
  have cL : ce.locals = s3.heap.objs.size := by rw [← ece]; rfl
  have cL' : (compEnvC scope (cellsFrom (s3.heap.objs.size + 1) scope.names (cloFrom X.env.cells scope.names [])) s3.heap.objs.size X.env).locals = s3.heap.objs.size := rfl
  generalize eH : upd H2 D (.lst []) = H3 at I3 I4 pg pt pe w0 f3
  generalize e4 : ({ s3 with heap := pushCells (s3.heap.push { cls := .type "dict", data := .dict #[] }) scope.names } : Shared) = s4 at I4 ⊢
  have k34 : ∀ b o, s3.heap.get? b = some o → s4.heap.get? b = some o := fun b o e => by
    rw [← e4]
    exact pushCells_keeps _ _ _ _ (Heap.get?_push_of_some _ e)
  have t4 : tn 0 s4.heap := T.keep _ _ _ t3 fun b _ o e => k34 b o e
  have J4 : Inv (hblk X s3 H3 scope ce fp) [] (wipe σ (own.map (·.2))) H3 s4 := inv_hblk I4 fun p hp => by
    obtain ⟨a1, a2, a3, a4, a5⟩ := I3.pin p (List.mem_append_left _ hp)
    exact ⟨k34 _ _ a1, a2, by rw [cL]; exact Nat.ne_of_lt (Heap.lt_size a1), fun hm => (List.mem_cons.mp (I3.stkSub p.1 hm)).elim a3 a4, a5⟩
  have stat : ∀ {σ' : L2.St} {H' : Hp} {s' : Shared}, Inv (hblk X s3 H3 scope ce fp) [] σ' H' s' → (∀ b ∈ fp, H' b = none) → ∀ b ∈ fp, FpOk (hblk X s3 H3 scope ce fp) [] H' b := fun {σ' H' s'} I' hn b hb =>
    ⟨hn b hb, (I'.ok.exf b hb).1, I'.ok.exfs b hb, .inl hb, fun x c e => (I'.ok.exf b hb).2 x c e, fun p hp => (f3 b hb).1.2.2.2.2.2 p (List.mem_append_left _ (by rw [List.append_nil] at hp; exact hp))⟩
  have loop : codeAny (model X.prog X.w) X.A (.compLoop (.ListComp elt [⟨tg, iter, ifs, 0⟩] scope pos) 0 (.ref it) (.ref D) ce) (compPost (model X.prog X.w) X.A X.xe none (EP X pins σ Q) (.ref D) s3.heap.objs.size) s4 := by
    refine compLoop_any (fun n s' => ∃ i H', Inv (hblk X s3 H3 scope ce fp) [] (wipe σ (own.map (·.2))) H' s' ∧ tn i s'.heap ∧ (∀ b ∈ fp, H' b = none) ∧ W i n H') ?_ m0 ⟨0, H3, J4, t4, fun b hb => (f3 b hb).1.1, w0⟩
    rintro n s5 ⟨i, H5, I5, t5, n5, w5⟩
    rcases turn i n H5 w5 with ⟨stop, qq⟩ | ⟨go, Nx, hNx, step⟩
    · refine thnF (T.done (hblk X s3 H3 scope ce fp) rfl rfl rfl hot i [] s5 _ H5 (fun _ _ => False) I5 (stat I5 n5) t5 stop) fun r s6 ⟨er, I6⟩ => ?_
      subst er
      have I7 : Inv X pins σ H5 s6 := I3.call' (ch := fp) I6.os I6.base I6.hok I6.bare fun b hb => let z := (f3 b hb).1; ⟨z.2.2.2.1, z.2.1, z.2.2.2.2.1, z.2.2.2.2.2⟩
      have nC : H5 s3.heap.objs.size = none := (congrArg H5 cL).symm.trans I6.free
      obtain ⟨m, hn, _⟩ := I6.loc
      obtain ⟨c0, c1, c2, c3, c4, c5⟩ := I3.fpOk (Nat.le_refl _) nC
      exact ⟨m, cL ▸ hn, fun h'' sb => ⟨.ref D, H5, I7.turned (t' := s6.toks) (fun b o hb e => (sb.2 b hb).trans e) c0 c1 c3 c4 c5, rfl, qq⟩⟩
    · refine thnF (T.item (hblk X s3 H3 scope ce fp) rfl rfl rfl hot i [] s5 _ H5 (fun _ _ => False) I5 (stat I5 n5) t5 go) fun r s6 ⟨u, er, h6⟩ => ?_
      subst er
      refine thnF h6 fun _ s7 ⟨x, H7, I7, r7, y7, t7, n7⟩ => ?_
      refine thnF (pg.run _ s7 _ H7 x u _ (I7.pinned (stat I7 n7) (T.obj _ _ t7)) r7 (step x H7 y7)) fun _ s8 ⟨σ8, H8, I8, w8, q8⟩ => ?_
      refine thnF (pt.run _ s8 σ8 H8 _ I8 q8) fun b s9 ⟨H9, I9, q9⟩ => ?_
      have fin : ∀ {s' : Shared} {H' : Hp}, Inv (hblk X s3 H3 scope ce fp) ([] ++ pinsAt fp s7.heap) σ8 H' s' → Nx H' → ∃ m, m < n ∧ ∃ i H', Inv (hblk X s3 H3 scope ce fp) [] (wipe σ (own.map (·.2))) H' s' ∧ tn i s'.heap ∧ (∀ b ∈ fp, H' b = none) ∧ W i m H' := fun {s' H'} I' nx => by
        obtain ⟨m', lt, w'⟩ := hNx H' nx
        have pin' : ∀ b ∈ fp, ∀ o, s7.heap.get? b = some o → s'.heap.get? b = some o ∧ H' b = none := fun b hb o e => let z := I'.pin (b, o) (List.mem_append_right _ (List.mem_append_right _ (mem_pinsAt hb e))); ⟨z.1, z.2.1⟩
        refine ⟨m', lt, i + 1, H', (I'.unpinned (pins := [])).weak (by rw [← w8, wipe_length]) (fun j v e => (wipe_some (by rw [← w8] at e; exact e)).1), T.keep _ _ _ t7 fun b hb o e => (pin' b hb o e).1, fun b hb => ?_, w'⟩
        obtain ⟨o, e, _⟩ := T.obj _ _ t7 b hb
        exact (pin' b hb o e).2
      cases b with
      | false =>
        simp only [Bool.false_eq_true, if_false] at q9 ⊢
        exact fin I9 q9
      | true =>
        simp only [if_true] at q9 ⊢
        refine thnF (pe.run _ s9 σ8 H9 _ I9 q9) fun z s10 ⟨yv, H10, I10, r10, acc, d10, z10, nx⟩ => ?_
        exact app_ok (X := hblk X s3 H3 scope ce fp) I10 d10 z10 r10 fun s11 I11 => fin I11 nx
  exact codeAny_compStart_list loop (T.self X.A 0 _ _ _ t4 loop)
/-- isinstance(e, c), e the exception p that the context holds -/
theorem call_isH {a D : Addr} {oe : Obj} (C : ExcC X.K D) (hz : Zc (.ref D) none oe) (hf : ∃ vs, oe.data = .fields vs) (hp : (a, oe) ∈ X.pn) : CallR X (.builtin "isinstance") (rIsE X.K D a) := by
  intro pins s σ H xs us Q I r h
  obtain ⟨c, cv, b, rfl, hcv, e, q⟩ := h
  obtain ⟨u1, u2, rfl, rfl, r2⟩ : ∃ u1 u2, us = [u1, u2] ∧ u1 = Value.ref a ∧ RelV c u2 := by
    cases r with
    | cons r1 rr =>
      cases rr with
      | cons r2 rr =>
        cases rr
        exact ⟨_, _, rfl, r1, r2⟩
  have ec := hcv _ r2
  subst ec
  obtain ⟨get, _⟩ := I.pin (a, oe) (List.mem_append_left _ hp)
  obtain ⟨vs, hv⟩ := hf
  have J : PySem.W.InstAt s.heap a oe D none := by
    obtain ⟨oc, od, oda, osl⟩ := oe
    obtain ⟨h1, h2⟩ := hz
    dsimp only at h1 h2 hv
    subst h1 h2 hv
    exact ⟨get, rfl, rfl, trivial⟩
  exact PySem.W.kia_one (PySem.W.handS_kitx_exc C.hg C.hk C.hs C.hd C.ha C.hn C.ht C.hm) I.kIn J e (fun z => nomatch z) fun tk => ⟨.bl b, H, I.kept (t' := tk) fun _ _ z => z, rfl, q⟩
end
end HT

/-! A lambda without parameters handed to a def that handles what it raises, its context known to be None; a def that is called with the handled exception. -/
namespace HT
open PySem PySem.Spec PyProof.Rows L2 HotX L2H LamX
/-! ### defs that raise where nothing is handled -/
abbrev CXn (P : Program) (w : World) : CXT := L2N.CX P w
theorem funX {P : Program} {w : World} {K : PySem.W.Frag} {mg : Str → Option Value} {base : Heap} {x qual : Str} {st : Stmt} {f : Addr} {fd : FuncData} {N ps : List Str} {k : Nat} {sp : Sp}
    (F : Fun K x qual st f fd) (S : FnScope N ps (defScope st)) (len : ∀ vs H Q E, sp vs H Q E → vs.length = ps.length)
    (go : ∀ (cdv : Value) (A : Around) (outer : List Env) (s : Shared) (H : Hp) (vs : List V) (Q : VK) (E : XK), Room k (A.deeper (envOfC qual (defScope st) s.heap.objs.size f cdv)) → sp vs H Q E →
      ∃ t, PSs (cxOf (CXn P w) P w K mg base N qual (defScope st) f cdv A outer s H E) (defBody st) t ∧ t { nx := fun _ H' => Q .non H', rt := Q } (L2.start N vs) H) :
    FnOk P w K mg base (CXn P w) (k + 1) f fd ps sp := by
  obtain ⟨oc, od, kV, doc, pm, an, cdv, ct, osl, rfl, lk, hcd⟩ := F.ex
  exact fn_of lk hcd S len (go cdv)
/-- what a callee lets out is let out -/
theorem passN {X : Cx} {E : XK} {W : WX} (tk : L2N.Takes X W) (h : ∀ cls d σ H, E cls d H → W cls d σ H) : Passes (CXn X.prog X.w) X E := L2N.passes_call tk h
/-! ### the lambda -/
section
variable {X : Cx}
/-- what leaves the frame env, entered at s from outer -/
abbrev goesN (X : Cx) (A : Around) (env : Env) (outer : List Env) (H : Hp) (s : Shared) (E : XK) : Value → Shared → Prop := fun e s1 =>
  wpAny (model X.prog X.w) (A.deeper env) (leaving env e) (fun _ s2 => CXn X.prog X.w outer H s E e s2) (fun e2 s2 => CXn X.prog X.w outer H s E e2 s2) s1
/-- the lambda's body, as lamCx has it, but for what it lets out -/
abbrev lamN (X : Cx) (A : Around) (outer : List Env) (s : Shared) (H : Hp) (E : XK) (sc : Scope) (f c : Addr) : Cx :=
  (lamCx X A outer s H E sc f c).tr [] (goesN X A (lamEnv X sc s.heap.objs.size f c) outer H s E)
theorem takesL {A : Around} {outer : List Env} {s : Shared} {H : Hp} {E : XK} {sc : Scope} {f c : Addr} : L2N.Takes (lamN X A outer s H E sc f c) (fun cls d _ H => E cls d H) := L2N.takes_of rfl rfl rfl rfl
theorem passL {A : Around} {outer : List Env} {s : Shared} {H : Hp} {E : XK} {sc : Scope} {f c : Addr} : Passes (CXn X.prog X.w) (lamN X A outer s H E sc f c) E := L2N.passes_call takesL fun _ _ _ _ h => h
/-- the def that got the lambda, entered at s -/
abbrev gotCx (X : Cx) (Ng : List Str) (x : Str) (sg : Scope) (g : Addr) (cdg : Value) (s : Shared) (H : Hp) : Cx := cxOf C8.CX0 X.prog X.w X.K X.mg X.base Ng x sg g cdg X.A X.stack s H C8.E0
/-- what a call of the lambda reads there -/
abbrev tAct (f c : Addr) (q : Str) (W : WX) (E : XK) (t : Hp → VK → Prop) : TE := fun σ H Q => σ[0]? = some (some (.ref f)) ∧ H c = some (CodeO c q) ∧ (∀ cls d H1, E cls d H1 → W cls d σ H1) ∧ t H Q
theorem actN {pins : List (Addr × Obj)} {σ : L2.St} {H : Hp} {s : Shared} {Ng : List Str} {qg : Str} {sg : Scope} {g f c : Addr} {cdg pm ctv : Value} {prm : Arguments} {body : Expr} {sc : Scope} {k : Nat} {a : Str} {pn : List (Addr × Obj)} {xe : Value → Shared → Prop}
    {W : WX} {E : XK} {tb : TE} {p1 p2 : Pos} (I : Inv X pins σ H s) (L : LamS X.env.scope sc)
    (hf : s.heap.get? f = some (PySem.W.kla_obj "<lambda>" (X.env.qual ++ "<lambda>") prm body sc (cloFrom X.env.cells sc.names []) pm c ctv)) (n1 : H f = none) (n2 : f ∉ frs X.stack)
    (hb : bindArgs (PySem.W.kla_fn "<lambda>" (X.env.qual ++ "<lambda>") prm body sc (cloFrom X.env.cells sc.names []) pm (.ref c) ctv) ⟨[], []⟩ = pure [])
    (tk : L2N.Takes ((gotCx X Ng qg sg g cdg s H).tr pn xe) W) (hr : Room (k + 1) (X.A.deeper (envOfC qg sg s.heap.objs.size g cdg)))
    (run : ∀ (A : Around) (outer : List Env) (s : Shared) (H : Hp), Room k (A.deeper (lamEnv X sc s.heap.objs.size f c)) → PE (lamN X A outer s H E sc f c) body tb)
    (hN : Ng[0]? = some a) (hv : Vis sg a) (h1 : (a == ("__debug__" : Str)) = false) (h2 : (a == ("__classdict__" : Str)) = false) :
    PE ((gotCx X Ng qg sg g cdg s H).tr pn xe) (.Call (.Name a p1) [] [] p2) (tAct f c (X.env.qual ++ "<lambda>") W E (tb σ)) := by
  refine ⟨fun pinsZ sZ σZ HZ Q IZ ⟨hs, hc, hW, ht⟩ => ?_⟩
  have look := (pe_var (pos := p1) (i := 0) hN hv h1 h2).run pinsZ sZ σZ HZ (fun v H1 => v = .ref f ∧ H1 = HZ) IZ ⟨.ref f, hs, rfl, rfl⟩
  refine wpAny_Call_Name_kw (thn look fun u s1 ⟨v, H1, I1, r1, ev, eH⟩ => ?_)
  subst ev
  rw [eH] at I1
  obtain rfl : u = Value.ref f := r1
  have at1 := I1.base.keep f _ hf n1 n2 fun z => nomatch (show f ∈ ([] : List Addr) from z)
  refine PySem.W.callWith_F0 ⟨_, _, _, _, at1⟩ ?_
  obtain ⟨⟨oc, vs, t, hoc, hdc, hvc⟩, _, _⟩ := I1.hok c _ hc
  have rc : codeAny (model X.prog X.w) (X.A.deeper (envOfC qg sg s.heap.objs.size g cdg)) (.call (.ref f) ⟨[], []⟩)
      (CR (CXn X.prog X.w) (envOfC qg sg s.heap.objs.size g cdg :: X.stack) X.prog X.w HZ s1 Q E) s1 := by
    refine PySem.W.kla_callFunE hr.depth at1 rfl L.co L.gen rfl ⟨c, oc, vs, t, rfl, hoc, hdc, hvc⟩ ?_
    rw [hb]
    refine wpAny_pure (wpAny_newFunctionEnv (fun y hy => (L.own y hy).2) (fun y hy => absurd hy (by simp)) (fun j ns sb => ⟨I1.nolimit.fresh _ sb, ?_⟩) L.kind)
    have kp : ∀ b o, s1.heap.get? b = some o → j.get? b = some o := fun b o e => sb.extBut b o (Nat.ne_of_lt (Heap.lt_size e)) (Heap.get?_push_of_some _ e)
    have J := (lam_start2 (E := E) (f := f) (c' := c) (tk := s1.toks + ([] : List (Str × Value)).length) I L I1.env0 hr.hd I1.base ns kp).toTry
      (goesN X (X.A.deeper (envOfC qg sg s.heap.objs.size g cdg)) (lamEnv X sc s1.heap.objs.size f c) (envOfC qg sg s.heap.objs.size g cdg :: X.stack) HZ s1 E)
    refine PySem.W.kla_codeExpr (wpAny_mono ((run _ _ s1 HZ (hr.deeper _)).run [] _ _ HZ Q J ht) (fun v s2 ⟨w2, H2, J2, r2, q2⟩ => ?_) fun e s2 hq => hq)
    exact ⟨w2, H2, J2.os, J2.bare, J2.base, J2.hok, r2, q2⟩
  refine wpAny_call (codeAny_mono rc fun r s2 hq => ?_)
  match r, hq with
  | .error e, hq => exact tk e s2 (L2N.XE.of_call I1 hW hq)
  | .ok (.ret u), hq => exact I1.after hq
  | .ok .next, hq => exact False.elim hq
  | .ok .brk, hq => exact False.elim hq
  | .ok .cont, hq => exact False.elim hq
/-- the def that got the lambda runs it: TT is what it makes of the lambda's reading -/
def GetsN (X : Cx) (Ng : List Str) (x : Str) (sg : Scope) (g : Addr) (cdg : Value) (bg : List Stmt) (a q : Str) (TT : (XK → Hp → VK → Prop) → Hp → VK → Prop) : Prop :=
  ∀ (f c : Addr) (s : Shared) (H : Hp) (Q : VK) (tl : XK → Hp → VK → Prop),
    (∀ (W : WX) (pn : List (Addr × Obj)) (xe : Value → Shared → Prop) (E : XK) (p1 p2 : Pos), L2N.Takes ((gotCx X Ng x sg g cdg s H).tr pn xe) W →
      PE ((gotCx X Ng x sg g cdg s H).tr pn xe) (.Call (.Name a p1) [] [] p2) (tAct f c q W E (tl E))) →
    H c = some (CodeO c q) → TT tl H Q →
    ∃ t, PSs (gotCx X Ng x sg g cdg s H).nox bg t ∧ t { nx := fun _ H1 => Q .non H1, rt := Q } (L2.start Ng [.ref f]) H
/-- x(lambda: body) -/
theorem pe_lamN {T : List (Addr × Str)} {TT : (XK → Hp → VK → Prop) → Hp → VK → Prop} {x a : Str} {g c P : Addr} {k : Nat} {pg : Arguments} {bg : List Stmt} {sg : Scope} {dV kV doc pm cdv ct oc : Value} {an od : Option Addr} {osl : Array (Option Value)} {Ng : List Str}
    {prm : Arguments} {body : Expr} {sc : Scope} {t : XK → TE} {p lpos pos : Pos} (hg : Gl X x) (hm : X.mg x = some (.ref g)) (hk : PySem.W.keepIn X.K (.ref g) = true)
    (lk : X.K.lookup g = some ⟨oc, od, .func (PySem.W.fnOf x x pg bg sg dV kV doc pm an cdv ct), osl⟩) (hcg : PySem.W.codeIn X.K cdv x = true) (hb : L2.Binds X.K (PySem.W.fnOf x x pg bg sg dV kV doc pm an cdv ct) [a] [])
    (Sg : FnScope Ng [a] sg) (hNg : Ng[0]? = some a) (hva : Vis sg a) (hG : GetsN X Ng x sg g cdv bg a (X.env.qual ++ "<lambda>") TT)
    (TB : TabB X.base X.mg c P) (hcode : X.env.code = .ref c) (hmT : (P, X.env.qual ++ "<lambda>") ∈ T) (hu : ∀ p ∈ T, p.1 = P → p.2 = X.env.qual ++ "<lambda>") (hr : Room (k + 2) X.A) (L : LamS X.env.scope sc) (hdef : defaultsOf prm X.env = ([], []))
    (hbind : ∀ (q : Str) (cl : List (Str × Addr)) (pm cv ctv : Value), bindArgs (PySem.W.kla_fn "<lambda>" q prm body sc cl pm cv ctv) ⟨[], []⟩ = pure [])
    (run : ∀ (A : Around) (outer : List Env) (s : Shared) (H : Hp) (E : XK) (f c' : Addr), Room k (A.deeper (lamEnv X sc s.heap.objs.size f c')) → PE (lamN X A outer s H E sc f c') body (t E))
    (h0 : (x == ("__debug__" : Str)) = false := by decide) (h1 : (a == ("__debug__" : Str)) = false := by decide) (h2 : (a == ("__classdict__" : Str)) = false := by decide) :
    PE X (.Call (.Name x p) [.Lambda prm body sc lpos] [] pos) (tLam T TT t) := by
  refine ⟨fun pins s σ H Q I ⟨hT, h⟩ => ?_⟩
  refine wpAny_Call_Name_kw (ld_glob I hg hm (PySem.W.callWith_K (h₀ := X.base) I.ok.mod.kin hk ?_ (by rfl) (by rfl)) h0)
  show wpAny _ _ (spliced ((false, eval (.Lambda prm body sc lpos) X.env) :: backTo pos (starEach [] X.env))) _ _ s
  refine Calls.spliced_cons (lam_make2 I TB hcode hmT hu hT hdef (L.has I.ok) fun f c' pm1 ctv H1 s1 I1 eN T1 hf n1 n2 hco => Calls.spliced_nil ⟨I1.kIn, ?_⟩)
  have rc : codeAny (model X.prog X.w) X.A (.call (.ref g) ⟨[.ref f], []⟩) (CR C8.CX0 X.stack X.prog X.w H1 s1 Q C8.E0) s1 := by
    refine run_ofS (N := Ng) (ps := [a]) (us := [.ref f]) (vs := [.ref f]) lk hcg Sg hr I1.env0 (hb s1 [.ref f] I1.kIn rfl) (.cons rfl .nil) rfl fun hr1 => ?_
    have act := fun (W : WX) (pn : List (Addr × Obj)) (xe : Value → Shared → Prop) (E : XK) (p1 p2 : Pos) (tk : L2N.Takes ((gotCx X Ng x sg g cdv s1 H1).tr pn xe) W) =>
      actN (p1 := p1) (p2 := p2) I1 L hf n1 n2 (hbind _ _ _ _ _) tk hr1 (fun A outer s H hr2 => run A outer s H E f c' hr2) hNg hva h1 h2
    obtain ⟨t1, ht1, hq1⟩ := hG f c' s1 H1 Q (fun E => t E σ) act hco (h H1 eN T1)
    exact ⟨t1, ht1.nox, hq1⟩
  refine wpAny_call (codeAny_mono rc fun r s2 hq => ?_)
  match r, hq with
  | .error e, hq => exact (show False from hq).elim
  | .ok (.ret u), hq => exact I1.after hq
  | .ok .next, hq => exact False.elim hq
  | .ok .brk, hq => exact False.elim hq
  | .ok .cont, hq => exact False.elim hq
end
/-! ### a def that is called with the exception that is handled -/
/-- as FnH, the promise knows the pinned exception -/
def FnP (P : Program) (w : World) (K : PySem.W.Frag) (mg : Str → Option Value) (base : Heap) (k : Nat) (f : Addr) (fd : FuncData) (a : Str) (sp : Addr × Obj → Hp → VK → Prop) : Prop :=
  ∀ (A : Around) (outer : List Env) (s : Shared) (H : Hp) (args : Args) (Q : VK) (p : Addr × Obj), RoomH k A → Hot1 A p → PinOk outer H s p → Env0 P w K mg base A outer s H → BindsTo s fd args [(a, .ref p.1)] → sp p H Q →
    codeAny (model P w) A (.call (.ref f) args) (CR C8.CX0 outer P w H s Q C8.E0) s
theorem fnP_of {P : Program} {w : World} {K : PySem.W.Frag} {mg : Str → Option Value} {base : Heap} {x qual a : Str} {st : Stmt} {f : Addr} {fd : FuncData} {N : List Str} {k : Nat} {sp : Addr × Obj → Hp → VK → Prop} (F : Fun K x qual st f fd) (S : FnScope N [a] (defScope st))
    (go : ∀ (cdv : Value) (A : Around) (outer : List Env) (s : Shared) (H : Hp) (Q : VK) (p : Addr × Obj), Hot1 A p → RoomH k (A.deeper (envOfC qual (defScope st) s.heap.objs.size f cdv)) → sp p H Q →
      ∃ t, PSs (cxH C8.CX0 P w K mg base N qual (defScope st) f cdv A outer s H C8.E0 p) (defBody st) t ∧ t { nx := fun _ H1 => Q .non H1, rt := Q } (L2.start N [.ref p.1]) H) : FnP P w K mg base (k + 1) f fd a sp := by
  obtain ⟨oc, od, kV, doc, pm, an, cdv, ct, osl, rfl, lk, hcd⟩ := F.ex
  intro A outer s H args Q p hr hot pin e0 hb hsp
  have KX : K.In s.heap := e0.mod.kin.keeps fun b o e => (e0.bs b o e).1
  have lim : s.heap.NoLimit := e0.mod.nolimit.keeps fun b o e => (e0.bs b o e).1
  have kd : ∀ y ∈ [a].zip [Value.ref p.1], (defScope st).names.lookup y.1 = some .local ∨ ((defScope st).names.lookup y.1 = some .cell ∧ ((cellsFrom (s.heap.objs.size + 1) (defScope st).names []).lookup y.1).isSome = true) := fun y hy =>
    (S.par y.1 (List.of_mem_zip hy).1).imp id fun q => ⟨q, PySem.W.cellsFrom_some _ _ _ (.inl q)⟩
  refine codeAny_call_function hr.depth (KX _ _ lk) rfl S.co S.gen rfl (PySem.W.codeRec_of KX hcd) (hb _ _ _ _ (wpAny_newFunctionEnv_cells S.kind kd fun env he s1 y => ?_))
  subst he
  obtain ⟨t, ht, hq⟩ := go cdv A outer s H Q p hot (hr.deeper _) hsp
  have J : Inv (cxH C8.CX0 P w K mg base N qual (defScope st) f cdv A outer s H C8.E0 p) [] (L2.start N [.ref p.1]) H s1 := inv_startH S pin e0 rfl (.cons rfl .nil) y
  refine ⟨lim.keeps y.toInCall.keep, codeAny_func (wpAny_mono (ht.run [] s1 _ H _ J hq) (fun fl s2 hs => ?_) fun e s2 hs => hs)⟩
  match fl, hs with
  | .ret u, ⟨v, _, H2, J2, rv, q⟩ => exact ⟨v, H2, J2.os, J2.bare, J2.base, J2.hok, rv, q⟩
  | .next, ⟨_, H2, J2, q⟩ => exact ⟨.non, H2, J2.os, J2.bare, J2.base, J2.hok, rfl, q⟩
  | .brk, ⟨_, _, _, q⟩ => exact False.elim q
  | .cont, ⟨_, _, _, q⟩ => exact False.elim q
/-- x(e) in the suite, e the exception that the suite holds -/
def tCallP (i : Nat) (a : Addr) (oe : Obj) (sp : Addr × Obj → Hp → VK → Prop) : TE := fun σ H Q => σ[i]? = some (some (.ref a)) ∧ sp (a, oe) H Q
theorem pe_callP {X : Cx} {x n z : Str} {i k : Nat} {f a : Addr} {oe : Obj} {pn : List (Addr × Obj)} {fd : FuncData} {sp : Addr × Obj → Hp → VK → Prop} {q q1 pos : Pos} (F : FnP X.prog X.w X.K X.mg X.base k f fd z sp) (hr : RoomH k X.A)
    (hz : PXN.CtxN oe) (hf : ∃ vs, oe.data = .fields vs) (hg : Gl X x) (hm : X.mg x = some (.ref f)) (hk : PySem.W.keepIn X.K (.ref f) = true) (hb : Binds X.K fd [z] [])
    (hN : X.N[i]? = some n) (hv : Vis X.env.scope n) (h1 : (n == ("__debug__" : Str)) = false := by decide) (h2 : (n == ("__classdict__" : Str)) = false := by decide) (h0 : (x == ("__debug__" : Str)) = false := by decide) :
    PE (X.suite a ((a, oe) :: pn)) (.Call (.Name x q) [.Name n q1] [] pos) (tCallP i a oe sp) := by
  have pn1 : PE (X.suite a ((a, oe) :: pn)) (.Name n q1) _ := pe_var (X := X.suite a ((a, oe) :: pn)) (i := i) hN hv h1 h2
  refine ⟨fun pins s σ H Q I ⟨hs, hq⟩ => ?_⟩
  refine wpAny_Call_Name_kw (ld_glob (X := X.suite a ((a, oe) :: pn)) I hg hm ?_ h0)
  refine PySem.W.callWith_K (h₀ := X.base) I.ok.mod.kin hk (thn ((pa_cons pn1 pa_nil).run pos pins s σ H (fun vs H1 => vs = [.ref a] ∧ H1 = H) I ⟨.ref a, hs, rfl, rfl⟩) fun us s1 ⟨vs, H1, I1, r, ev, eH⟩ => ⟨I1.kIn, ?_⟩) (by rfl) (by rfl)
  subst ev
  rw [eH] at I1
  obtain ⟨u, rfl, ru⟩ := r.one
  obtain rfl : u = Value.ref a := ru
  obtain ⟨vs, hvs⟩ := hf
  have P1 := I1.pin (a, oe) (List.mem_append_left _ List.mem_cons_self)
  have pin : PinOk X.stack H s1 (a, oe) := ⟨P1.1, P1.2.1, fun hm => (List.mem_cons.mp (I1.stkSub a hm)).elim P1.2.2.1 P1.2.2.2.1, P1.2.2.2.2⟩
  have bd := hb s1 [.ref a] I1.kIn rfl
  refine wpAny_call (codeAny_mono (F (X.A.mark (some (.ref a))) X.stack s1 H ⟨[.ref a], []⟩ Q (a, oe) ⟨hr.dp, hr.un⟩ ⟨rfl, vs, hvs, hz vs hvs⟩ pin I1.env0 bd hq) fun r s2 hq => ?_)
  match r, hq with
  | .error e, hq => exact (show False from hq).elim
  | .ok (.ret u), hq => exact I1.after hq
  | .ok .next, hq => exact False.elim hq
  | .ok .brk, hq => exact False.elim hq
  | .ok .cont, hq => exact False.elim hq
end HT

/-! == and len of instances with own __eq__ and __len__, any answer; tables and data. -/
namespace HT
open PySem PySem.Spec PyProof.Rows L2 LamX PS
section
variable {X : Cx} {n : Nat} {f C : Addr} {fd : FuncData} {ps : List Str} {sp : Sp}
/-- x == y, x an instance of the class at C, y of the type tb, which is none below C -/
def rEqOwn (K : PySem.W.Frag) (C : Addr) (sp : Sp) : R2 := fun x y H Q => ∃ (a dx : Addr) (fs : List (Str × V)) (tb : Value), x = .ref a ∧ H a = some (.ins C dx fs) ∧ TyX K H y tb ∧ PySem.W.notFirst K C tb = true ∧
  sp [x, y] H (fun v H1 => (∃ b, v = .bl b) ∧ Q v H1) L2.E0
theorem op_eqOwn (F : FnOk X.prog X.w X.K X.mg X.base L2.CX0 n f fd ps sp) (M : Meth X.K C "__eq__" f) (hb : Binds X.K fd ps []) (hr : Room n X.A) : OpR X (compareOp .Eq) (rEqOwn X.K C sp) := by
  intro pins s σ H x y v u Q I rx ry h
  obtain ⟨a, dx, fs, tb, rfl, ha, ty, nf, q⟩ := h
  obtain rfl : v = Value.ref a := rx
  obtain ⟨_, J, _⟩ := ins_get I.hok ha
  obtain ⟨_, J, _⟩ := J.look
  obtain ⟨_, hF⟩ := I.fr
  obtain ⟨_, kx, hP, _⟩ := kit_of I ry ty
  show wpAny (model X.prog X.w) X.A (richCompare .Eq (.ref a) u) _ _ s
  refine PySem.W.cmp_K (op := .Eq) hr.units0 hF I.ok.mod.kin J (kx.ty _ _ I.kIn hP) nf M.at_ M.fn ?_
  refine wpAny_mono (run_fn (us := [.ref a, u]) (vs := [.ref a, y]) F hr hb .nil pass0 I (.cons rfl (.cons ry .nil)) q) (fun v s1 z => ?_) fun _ _ z => z
  obtain ⟨z, H1, I1, rz, ⟨b, rfl⟩, q1⟩ := z
  obtain rfl : v = Value.bool b := rz
  exact ⟨.bl b, H1, I1, rfl, q1⟩
/-- len(x), x an instance of the class at C -/
def rLenOwn (C : Addr) (sp : Sp) : List V → Hp → VK → Prop := fun xs H Q => ∃ (a dx : Addr) (fs : List (Str × V)), xs = [.ref a] ∧ H a = some (.ins C dx fs) ∧
  sp xs H (fun v H1 => ∃ i : Int, v = .int i ∧ 0 ≤ i ∧ i < 2 ^ 63 ∧ Q v H1) L2.E0
theorem call_lenOwn (F : FnOk X.prog X.w X.K X.mg X.base L2.CX0 n f fd ps sp) (M : Meth X.K C "__len__" f) (hb : Binds X.K fd ps []) (hr : Room (n + 1) X.A) : CallR X (.builtin "len") (rLenOwn C sp) := by
  intro pins s σ H xs us Q I r h
  obtain ⟨a, dx, fs, rfl, ha, q⟩ := h
  obtain ⟨u, rfl, ru⟩ := r.one
  obtain rfl : u = Value.ref a := ru
  obtain ⟨_, J, _⟩ := ins_get I.hok ha
  obtain ⟨_, J, _⟩ := J.look
  obtain ⟨_, hF⟩ := I.fr
  have hl := F.len _ _ _ _ q
  have b := hb s [.ref a] I.kIn (by rw [List.append_nil]; exact hl)
  rw [List.append_nil] at b
  refine PySem.W.len_K hF I.ok.mod.kin J M.at_ M.fn (wpAny_call (codeAny_mono (F.run X.A.in1 X.stack s H ⟨[.ref a], []⟩ [.ref a] [.ref a] _ L2.E0 hr.in1 I.env0.in1 b (.cons rfl .nil) q) fun r s1 hq => ?_))
  match r, hq with
  | .error e, hq => exact (show False from hq).elim
  | .ok (.ret u), hq =>
    obtain ⟨z, H1, I1, rz, i, rfl, i0, i1, q1⟩ := I.after hq
    obtain ⟨t, rfl⟩ := (show ∃ t, u = Value.int i t from rz)
    exact ⟨⟨i0, i1⟩, .int i, H1, I1.tok _, ⟨_, rfl⟩, q1⟩
  | .ok .next, hq => exact False.elim hq
  | .ok .brk, hq => exact False.elim hq
  | .ok .cont, hq => exact False.elim hq
end
/-! ### the heap without tables -/
def NT (H : Hp) : Hp := fun b => match H b with
  | some (.tbl _) => none
  | o => o
theorem nt_at {H : Hp} {b : Addr} {o : HO} (h : H b = some o) (n : ∀ ps, o ≠ .tbl ps) : NT H b = some o := by
  unfold NT
  rw [h]
  cases o <;> first | rfl | exact absurd rfl (n _)
theorem nt_some {H : Hp} {b : Addr} {o : HO} (h : NT H b = some o) : H b = some o ∧ ∀ ps, o ≠ .tbl ps := by
  unfold NT at h
  cases e : H b with
  | none => rw [e] at h; cases h
  | some u =>
    rw [e] at h
    cases u <;> first | cases h; done | (cases h; exact ⟨rfl, fun ps z => by cases z⟩)
theorem nt_same (H : Hp) : Same (NT H) H := fun b o h => (nt_some h).1
theorem nt_ext {H H' : Hp} (e : ExtN H H') : Same (NT H) (NT H') := fun b o h => nt_at (e b o (nt_some h).1 (nt_some h).2) (nt_some h).2
theorem nt_mono {H H' : Hp} (e : Same H H') : Same (NT H) (NT H') := nt_ext (ExtN.of e)
theorem ext_nt {H H' : Hp} (e : Same (NT H) (NT H')) : ExtN H H' := fun b o h n => (nt_some (e b o (nt_at h n))).1
theorem nt_off (k : Addr) (H : Hp) : NT (Off k H) = Off k (NT H) := by
  funext b
  unfold NT PS.Off
  by_cases e : b = k
  · rw [if_pos e, if_pos e]
  · rw [if_neg e, if_neg e]
theorem off_off (j k : Addr) (H : Hp) : Off j (Off k H) = Off k (Off j H) := by
  funext b
  unfold PS.Off
  by_cases e : b = j
  · by_cases e2 : b = k
    · rw [if_pos e, if_pos e2]
    · rw [if_pos e, if_neg e2, if_pos e]
  · by_cases e2 : b = k
    · rw [if_neg e, if_pos e2, if_pos e2]
    · rw [if_neg e, if_neg e2, if_neg e2, if_neg e]
mutual
theorem dp_nt {K : PySem.W.Frag} {H : Hp} : ∀ (d : PyData) (v : V), Dp K H v d → Dp K (NT H) v d
  | .none, _, h => by cases h; exact .non
  | .bool b, _, h => by cases h; exact .bl b
  | .int i, _, h => by cases h; exact .int i
  | .str x, _, h => by cases h; exact .str x
  | .list ds, _, h => by
    cases h with
    | lst s al =>
      refine .lst ?_ (dpAll_nt ds _ al)
      rcases s with (s | ⟨o, s⟩) | s
      · exact .inl (.inl (nt_at s fun ps z => by cases z))
      · exact .inl (.inr ⟨o, nt_at s fun ps z => by cases z⟩)
      · exact .inr s
  | .tuple ds, _, h => by
    cases h with
    | tup s al =>
      refine .tup ?_ (dpAll_nt ds _ al)
      rcases s with (s | ⟨o, s⟩) | s
      · exact .inl (.inl (nt_at s fun ps z => by cases z))
      · exact .inl (.inr ⟨o, nt_at s fun ps z => by cases z⟩)
      · exact .inr s
  | .dict _, _, h => by cases h
theorem dpAll_nt {K : PySem.W.Frag} {H : Hp} : ∀ (ds : List PyData) (vs : List V), DpAll K H vs ds → DpAll K (NT H) vs ds
  | [], _, h => by cases h; exact .nil
  | d :: ds, _, h => by
    cases h with
    | cons h1 h2 => exact .cons (dp_nt d _ h1) (dpAll_nt ds _ h2)
end
theorem dp_ext {K : PySem.W.Frag} {H H' : Hp} {d : PyData} {v : V} (e : ExtN H H') (h : Dp K H v d) : Dp K H' v d := Dpm ((nt_ext e).trans (nt_same H')) (dp_nt d v h)
theorem ext_off {H H' : Hp} (k : Addr) (e : ExtN H H') : ExtN (Off k H) (Off k H') := ext_nt (by rw [nt_off, nt_off]; exact off_mono (nt_ext e))
theorem ext_in {H H' : Hp} {k : Addr} (e : ExtN (Off k H) (Off k H')) {b : Addr} {o : HO} (n : b ≠ k) (h : H b = some o) (t : ∀ ps, o ≠ .tbl ps) : H' b = some o := by
  have := e b o (off_at n h) t
  exact off_same k H' b o this
/-! ### tables -/
theorem tabs_off {T : List (Addr × Str)} {H H' : Hp} {k : Addr} {o : HO} (hk : H k = some o) (n1 : ∀ ps, o ≠ .tbl ps) (n2 : ∀ φ, o ≠ .ext φ) (e : Same (Off k H) (Off k H')) (t : Tabs T H) : Tabs T H' := fun p hp => by
  obtain ⟨ps, h1, h2, h3⟩ := t p hp
  refine ⟨ps, off_back e (fun z => ?_) h1, h2, fun pos cv hc => ?_⟩
  · rw [z, hk] at h1
    exact n1 ps (Option.some.inj h1)
  · obtain ⟨c, e1, e2⟩ := h3 pos cv hc
    refine ⟨c, e1, off_back e (fun z => ?_) e2⟩
    rw [z, hk] at e2
    exact n2 _ (Option.some.inj e2)
end HT

/-! A def whose code object is known (it makes lambdas); the end with tables. -/
namespace HT
open PySem PySem.Spec PyProof.Rows L2 HotX L2H LamX
def CodeAt (K : PySem.W.Frag) (f c : Addr) : Prop := ∃ (oc : Value) (od : Option Addr) (fd : FuncData) (sl : Array (Option Value)), K.lookup f = some ⟨oc, od, .func fd, sl⟩ ∧ fd.code = .ref c
theorem funL {P : Program} {w : World} {K : PySem.W.Frag} {mg : Str → Option Value} {base : Heap} {x qual : Str} {st : Stmt} {f c : Addr} {fd : FuncData} {N ps : List Str} {k : Nat} {sp : Sp}
    (F : Fun K x qual st f fd) (C : CodeAt K f c) (S : FnScope N ps (defScope st)) (len : ∀ vs H Q E, sp vs H Q E → vs.length = ps.length)
    (go : ∀ (A : Around) (outer : List Env) (s : Shared) (H : Hp) (vs : List V) (Q : VK) (E : XK), Room k (A.deeper (envOfC qual (defScope st) s.heap.objs.size f (.ref c))) → sp vs H Q E →
      ∃ t, PSs (cxOf L2.CX0 P w K mg base N qual (defScope st) f (.ref c) A outer s H E).nox (defBody st) t ∧ t { nx := fun _ H1 => Q .non H1, rt := Q } (L2.start N vs) H) :
    FnOk P w K mg base L2.CX0 (k + 1) f fd ps sp := by
  obtain ⟨oc, od, kV, doc, pm, an, cdv, ct, osl, rfl, lk, hcd⟩ := F.ex
  obtain ⟨_, _, fd1, _, lk1, e⟩ := C
  have z := lk.symm.trans lk1
  cases z
  obtain rfl : cdv = .ref c := e
  refine fn_of lk hcd S len fun A outer s H vs Q E hr hsp => ?_
  obtain ⟨t, h, q⟩ := go A outer s H vs Q E hr hsp
  exact ⟨t, h.nox, q⟩
/-- the end of a law row, the tables of its defs told -/
theorem walk_tabs {l : PySem.W.OpenLaw} {n k : Nat} {q : Program} {loose : List Str} {XP : (Str → Option Value) → Heap → Prop} {YP : World → Heap → Prop} {d : DefRec} {K : Params → PySem.W.Frag} {CX : World → CXT} {x : Str}
    (hn : l.most = some n) (hn2 : n ≤ sizeLine) (hdf : d.params.defaults = []) (hr : Room k callerA) (hY : ∀ (w : World) (h : Heap), YP w h → (K w.params).In h)
    (F : ∀ (w : World) (mg : Str → Option Value) (fa : Addr) (h : Heap), YP w h → (K w.params).In h → h.Ns mainGlobals mg → mg d.name = some (.ref fa) →
      (∀ (x : Str) (dr : DefRec) (c P : Addr), (recsOf q).find? (fun e => e.name == x) = some dr → PySem.W.tabIn (K w.params) x = some (c, P) → PySem.W.CodeHd h c P ∧ h.get? P = some { cls := .none, data := .fields #[] }) → LawAtS l w (K w.params) (CX w) k n x mg fa h)
    (hCX : ∀ (w : World) (H : Hp) (s : Shared) (e : Value) (s' : Shared), CX w [] H s (fun _ _ _ => False) e s' → False) :
    PySem.W.WalkO q loose XP YP l.row.toRowW d [] (fun f vs => PySem.call f vs) := by
  refine Att.attach_callB hn hdf fun w s₀ s₁ mg mb fa o pm cd doc a vs ns G Y ho hd hcd hmg hobj hints hlen hbits hg => ?_
  have KX := hY w _ Y
  obtain ⟨fd, cs, sp, hT, nT, C, hb, hsp, hF⟩ := F w mg fa _ Y KX G.T.g hmg fun x dr c P h1 h2 => PySem.W.tab_of G.T KX h1 h2
  exact law_callTs KX G.T.g G.T.b G.T.builtins G.T.nolimit hg hT nT C G.T.bmain hobj hints (Nat.le_trans hlen hn2) hr hF hb (fun H hH hS => hsp H a ns hlen hbits hH hS) fun H e s' => hCX w H s₁ e s'
end HT

/-! The end with tables: what is asked of the written part. -/
namespace HT
open PySem PySem.Spec PyProof.Rows L2 LamX
theorem tab_mk {K : PySem.W.Frag} {x : Str} {f c P : Addr} {oc e : Value} {od dd : Option Addr} {fd : FuncData} {sl sl2 : Array (Option Value)} {vs : Array Value}
    (a : PySem.W.nsIn K mainGlobals x = some (some (.ref f))) (l : K.lookup f = some ⟨oc, od, .func fd, sl⟩) (h : fd.code = .ref c) (k : K.lookup c = some ⟨e, dd, .fields vs, sl2⟩) (p : vs[11]? = some (.ref P)) : PySem.W.tabIn K x = some (c, P) := by
  unfold PySem.W.tabIn
  simp only [a, l, h, k, p]
/-- what is known of the tables of the program's defs at h -/
def TabsAt (q : Program) (K : PySem.W.Frag) (h : Heap) : Prop := ∀ (x : Str) (c P : Addr), ((recsOf q).any fun e => e.name == x) = true → PySem.W.tabIn K x = some (c, P) → PySem.W.CodeHd h c P ∧ h.get? P = some { cls := .none, data := .fields #[] }
theorem walk_tabsQ {l : PySem.W.OpenLaw} {n k : Nat} {q : Program} {loose : List Str} {XP : (Str → Option Value) → Heap → Prop} {YP : World → Heap → Prop} {d : DefRec} {K : Params → PySem.W.Frag} {CX : World → CXT} {x : Str}
    (hn : l.most = some n) (hn2 : n ≤ sizeLine) (hdf : d.params.defaults = []) (hr : Room k callerA) (hY : ∀ (w : World) (h : Heap), YP w h → (K w.params).In h)
    (F : ∀ (w : World) (mg : Str → Option Value) (fa : Addr) (h : Heap), (K w.params).In h → h.Ns mainGlobals mg → mg d.name = some (.ref fa) → TabsAt q (K w.params) h → LawAtS l w (K w.params) (CX w) k n x mg fa h)
    (hCX : ∀ (w : World) (H : Hp) (s : Shared) (e : Value) (s' : Shared), CX w [] H s (fun _ _ _ => False) e s' → False) :
    PySem.W.WalkO q loose XP YP l.row.toRowW d [] (fun f vs => PySem.call f vs) := by
  refine walk_tabs hn hn2 hdf hr hY (fun w mg fa h Y KX G hmg t => F w mg fa h KX G hmg fun x c P ha ht => ?_) hCX
  have hs : ((recsOf q).find? fun e => e.name == x).isSome = true := by
    rw [List.find?_isSome]
    obtain ⟨e, he, h1⟩ := List.any_eq_true.mp ha
    exact ⟨e, he, h1⟩
  obtain ⟨dr, hd⟩ := Option.isSome_iff_exists.mp hs
  exact t x dr c P hd ht
end HT

/-! Lambdas that outlive the def that made them: the function's object and its cells are tracked once the def has ended. -/
namespace HT
open PySem PySem.Spec PyProof.Rows L2 HotX L2H LamX
/-! ### what is tracked -/
def LamO (f : Addr) (q : Str) (prm : Arguments) (body : Expr) (sc : Scope) (cl : List (Str × Addr)) (c : Addr) : HO := .ext fun h => ∃ (pm ctv : Value), h.get? f = some (PySem.W.kla_obj "<lambda>" q prm body sc cl pm c ctv)
def CellO (c : Addr) (v : V) : HO := .ext fun h => ∃ u, RelV v u ∧ h.IsCell c (some u)
theorem lamO_ok {P : Program} {w : World} {H : Hp} {h : Heap} {f : Addr} {q : Str} {prm : Arguments} {body : Expr} {sc : Scope} {cl : List (Str × Addr)} {c : Addr} {pm ctv : Value}
    (e : h.get? f = some (PySem.W.kla_obj "<lambda>" q prm body sc cl pm c ctv)) : ObjOk P w H h f (LamO f q prm body sc cl c) :=
  ⟨⟨pm, ctv, e⟩, ⟨_, e⟩, fun _ _ ⟨pm, ctv, e⟩ k => ⟨pm, ctv, k _ e⟩⟩
theorem cellO_ok {P : Program} {w : World} {H : Hp} {h : Heap} {c : Addr} {v : V} {u : Value} (r : RelV v u) (e : h.IsCell c (some u)) : ObjOk P w H h c (CellO c v) := by
  obtain ⟨o, ho, hd⟩ := e
  exact ⟨⟨u, r, o, ho, hd⟩, ⟨o, ho⟩, fun _ _ ⟨u, r, o, ho, hd⟩ k => ⟨u, r, o, k _ ho, hd⟩⟩
theorem lamO_nt {f : Addr} {q : Str} {prm : Arguments} {body : Expr} {sc : Scope} {cl : List (Str × Addr)} {c : Addr} (ps : Array Value) : LamO f q prm body sc cl c ≠ .tbl ps := fun z => by
  unfold LamO at z
  cases z
theorem cellO_nt {c : Addr} {v : V} (ps : Array Value) : CellO c v ≠ .tbl ps := fun z => by
  unfold CellO at z
  cases z
/-- the lambda at f: its text, and what the names of N hold that it has captured in the cells of cl -/
structure CloF (H : Hp) (f : Addr) (q : Str) (prm : Arguments) (body : Expr) (sc : Scope) (N : List Str) (σ : L2.St) (cl : List (Str × Addr)) (c : Addr) : Prop where
  hf : H f = some (LamO f q prm body sc cl c)
  hc : H c = some (CodeO c q)
  inj : ∀ x y d, cl.lookup x = some d → cl.lookup y = some d → x = y
  cell : ∀ p ∈ cl, ∃ v, H p.2 = some (CellO p.2 v)
  val : ∀ y d, cl.lookup y = some d → ∃ (i : Nat) (v : V), N[i]? = some y ∧ σ[i]? = some (some v) ∧ H d = some (CellO d v)
  has : ∀ y, sc.names.lookup y = some .free → ∃ d, cl.lookup y = some d
def CloAt (H : Hp) (f : Addr) (q : Str) (prm : Arguments) (body : Expr) (sc : Scope) (N : List Str) (σ : L2.St) : Prop := ∃ (cl : List (Str × Addr)) (c : Addr), CloF H f q prm body sc N σ cl c
theorem CloAt.ext {H H' : Hp} {f : Addr} {q : Str} {prm : Arguments} {body : Expr} {sc : Scope} {N : List Str} {σ : L2.St} (a : CloAt H f q prm body sc N σ) (e : ExtN H H') : CloAt H' f q prm body sc N σ := by
  obtain ⟨cl, c, h1, h2, h3, h0, h4, h5⟩ := a
  refine ⟨cl, c, e _ _ h1 lamO_nt, e _ _ h2 codeO_ne, h3, fun p hp => ?_, fun y d hd => ?_, h5⟩
  · obtain ⟨v, hv⟩ := h0 p hp
    exact ⟨v, e _ _ hv cellO_nt⟩
  · obtain ⟨i, v, g1, g2, g3⟩ := h4 y d hd
    exact ⟨i, v, g1, g2, e _ _ g3 cellO_nt⟩
/-! ### the lambda as a value -/
theorem upd_none {H : Hp} {a b : Addr} {o : HO} (e : upd H a o b = none) : H b = none := by
  by_cases z : b = a
  · rw [z, upd_same] at e
    cases e
  · rw [upd_ne z] at e
    exact e
section
variable {X : Cx} {pins : List (Addr × Obj)} {σ : L2.St} {H : Hp} {s : Shared}
theorem lam_makeT {T : List (Addr × Str)} {c P : Addr} {prm : Arguments} {body : Expr} {sc : Scope} {pos : Pos} {E : Value → Shared → Prop} {Q : Value → Shared → Prop} (I : Inv X pins σ H s) (TB : TabB X.base X.mg c P) (hcode : X.env.code = .ref c)
    (hm : (P, X.env.qual ++ "<lambda>") ∈ T) (hu : ∀ p ∈ T, p.1 = P → p.2 = X.env.qual ++ "<lambda>") (hT : Tabs T H) (hdef : defaultsOf prm X.env = ([], [])) (hfree : ∀ y ∈ sc.names, y.2 = .free → ∃ c, X.env.cells.lookup y.1 = some c)
    (go : ∀ (f d : Addr) (H1 : Hp) (s1 : Shared), Inv X pins σ H1 s1 → ExtN H H1 → (∀ b, H1 b = none → H b = none) → Tabs T H1 → H f = none → H1 f = some (LamO f (X.env.qual ++ "<lambda>") prm body sc (cloFrom X.env.cells sc.names []) d) → H1 d = some (CodeO d (X.env.qual ++ "<lambda>")) → Q (.ref f) s1) :
    wpAny (model X.prog X.w) X.A (eval (.Lambda prm body sc pos) X.env) Q E s := by
  obtain ⟨ps, hP, ht, ha⟩ := hT _ hm
  have bP := TB.bm.keeps I.bk
  have gP : s.heap.get? P = some { cls := .none, data := .fields ps } := I.hok P _ hP
  -- the tables stay tables where a new object is tracked
  have grow : ∀ {H1 : Hp} {f : Addr} {o : HO}, H1 f = none → Tabs T H1 → Tabs T (upd H1 f o) := fun {H1 f o} n t => t.ext fun b u e => by
    rw [upd_ne (ne_of_none e n)]
    exact e
  refine PySem.W.kla_eval hdef ?_
  cases hc : codeAmong pos ps.toList with
  | some cv =>
    obtain ⟨d, rfl, hd⟩ := ha pos cv hc
    refine PySem.W.kla_makeFunctionHit (mg := X.mg) (c := c) (P := P) (ps := ps) (closure_ok hfree) I.ok.glob (I.mod.glob.keeps I.bk) hcode (TB.code.keeps I.bk) gP ht hc bP fun ctv j tk hx hz => ?_
    have I1 : Inv X pins σ H { s with heap := j, toks := tk } := I.kept hx
    have nf : H j.objs.size = none := I.hok.fresh hz
    have I2 := I1.laid (t' := tk) (a := j.objs.size) (h' := j.push (PySem.W.kla_obj "<lambda>" (X.env.qual ++ "<lambda>") prm body sc (cloFrom X.env.cells sc.names []) ((X.mg "__name__").getD .none) d ctv)) (fun b u e => Heap.get?_push_of_some _ e) (Nat.le_refl _) (lamO_ok (Heap.get?_push_size _ rfl))
    refine go _ d _ _ I2 (ExtN.of fun b u e => ?_) (fun b e => upd_none e) (grow nf hT) nf upd_same ?_
    · rw [upd_ne (ne_of_none e nf)]
      exact e
    · rw [upd_ne (ne_of_none hd nf)]
      exact hd
  | none =>
    refine PySem.W.kla_makeFunction (mg := X.mg) (c := c) (P := P) (ps := ps) (closure_ok hfree) I.ok.glob (I.mod.glob.keeps I.bk) hcode (TB.code.keeps I.bk) gP ht hc TB.gP bP fun d ctv j tk hx hge hlt hrec htb => ?_
    obtain ⟨d2, oc, vs, t, e2, hoc, hdc, hvc⟩ := hrec
    cases e2
    have nd : H d = none := I.hok.fresh hge
    have I1 := inv_table (t' := tk) (more := #[rawInt pos.line, rawInt pos.col, .ref d]) (h' := j) I hP (fun b o hb e => hx b o hb e) htb hge ⟨oc, vs, t, hoc, hdc, hvc⟩
    have nf : upd (upd H P (.tbl (ps ++ #[rawInt pos.line, rawInt pos.col, .ref d]))) d (CodeO d (X.env.qual ++ "<lambda>")) j.objs.size = none := I1.hok.fresh (Nat.le_refl _)
    have nf0 : H j.objs.size = none := I.hok.fresh (Nat.le_trans hge (Nat.le_of_lt hlt))
    have I2 := I1.laid (t' := tk) (a := j.objs.size) (h' := j.push (PySem.W.kla_obj "<lambda>" (X.env.qual ++ "<lambda>") prm body sc (cloFrom X.env.cells sc.names []) ((X.mg "__name__").getD .none) d ctv)) (fun b u e => Heap.get?_push_of_some _ e) (Nat.le_refl _) (lamO_ok (Heap.get?_push_size _ rfl))
    have e1 : ExtN H (upd (upd H P (.tbl (ps ++ #[rawInt pos.line, rawInt pos.col, .ref d]))) d (CodeO d (X.env.qual ++ "<lambda>"))) := fun b o e n => by
      have nb : b ≠ P := fun z => by
        rw [z, hP] at e
        exact n ps (Option.some.inj e).symm
      rw [upd_ne (ne_of_none e nd), upd_ne nb]
      exact e
    have eL : (ps ++ #[rawInt pos.line, rawInt pos.col, .ref d]).toList = ps.toList ++ [rawInt pos.line, rawInt pos.col, .ref d] := by simp
    have T1 : Tabs T (upd (upd H P (.tbl (ps ++ #[rawInt pos.line, rawInt pos.col, .ref d]))) d (CodeO d (X.env.qual ++ "<lambda>"))) := fun p hp => by
      by_cases hb : p.1 = P
      · rw [hu p hp hb, hb]
        refine ⟨_, by rw [upd_ne (ne_of_none hP nd), upd_same], by rw [eL]; exact PySem.TriplesOk_snoc _ _ _ _ ht, fun p2 cv hcv => ?_⟩
        rw [eL] at hcv
        rcases among_app _ ht hcv with z | z
        · obtain ⟨c0, q1, q2⟩ := ha p2 cv z
          exact ⟨c0, q1, e1 _ _ q2 codeO_ne⟩
        · exact ⟨d, z, upd_same⟩
      · obtain ⟨ps2, a1, a2, a3⟩ := hT p hp
        refine ⟨ps2, by rw [upd_ne (ne_of_none a1 nd), upd_ne hb]; exact a1, a2, fun p2 cv hcv => ?_⟩
        obtain ⟨c0, q1, q2⟩ := a3 p2 cv hcv
        exact ⟨c0, q1, e1 _ _ q2 codeO_ne⟩
    refine go _ d _ _ I2 (e1.trans (ExtN.of fun b u e => ?_)) (fun b e => upd_none (upd_none (upd_none e))) (grow nf T1) nf0 upd_same ?_
    · rw [upd_ne (ne_of_none e nf)]
      exact e
    · rw [upd_ne (ne_of_none upd_same nf), upd_same]
end
/-- lambda: body, as a value -/
def tLamV (T : List (Addr × Str)) (q : Str) (prm : Arguments) (body : Expr) (sc : Scope) (cl : List (Str × Addr)) : TE := fun _ H Q => Tabs T H ∧ ∀ f d H1, ExtN H H1 → (∀ b, H1 b = none → H b = none) → Tabs T H1 → H f = none → H1 f = some (LamO f q prm body sc cl d) → H1 d = some (CodeO d q) → Q (.ref f) H1
theorem pe_lamV {X : Cx} {T : List (Addr × Str)} {c P : Addr} {prm : Arguments} {body : Expr} {sc : Scope} {pos : Pos} (TB : TabB X.base X.mg c P) (hcode : X.env.code = .ref c) (hm : (P, X.env.qual ++ "<lambda>") ∈ T) (hu : ∀ p ∈ T, p.1 = P → p.2 = X.env.qual ++ "<lambda>")
    (L : LamS X.env.scope sc) (hdef : defaultsOf prm X.env = ([], [])) : PE X (.Lambda prm body sc pos) (tLamV T (X.env.qual ++ "<lambda>") prm body sc (cloFrom X.env.cells sc.names [])) :=
  ⟨fun pins s σ H Q I ⟨hT, h⟩ => lam_makeT I TB hcode hm hu hT hdef (L.has I.ok) fun f d H1 s1 I1 e1 g1 T1 n1 hf hd => ⟨.ref f, H1, I1, rfl, h f d H1 e1 g1 T1 n1 hf hd⟩⟩
/-! ### a def that gives such lambdas back -/
/-- H with the cells of cs tracked as what they hold -/
def keepC (cs : List (Addr × V)) (H : Hp) : Hp := fun b => match cs.lookup b with
  | some v => some (CellO b v)
  | none => H b
theorem keepC_at {cs : List (Addr × V)} {H : Hp} {c : Addr} {v : V} (h : cs.lookup c = some v) : keepC cs H c = some (CellO c v) := by
  unfold keepC
  rw [h]
theorem keepC_ne {cs : List (Addr × V)} {H : Hp} {b : Addr} (h : cs.lookup b = none) : keepC cs H b = H b := by
  unfold keepC
  rw [h]
theorem keepC_same {cs : List (Addr × V)} {H : Hp} (n : ∀ c v, cs.lookup c = some v → H c = none) : Same H (keepC cs H) := fun b o e => by
  cases z : cs.lookup b with
  | none => rw [keepC_ne z]; exact e
  | some v => rw [n b v z] at e; cases e
end HT

/-! A def that gives its lambdas back; such a lambda called where its def has ended. -/
namespace HT
open PySem PySem.Spec PyProof.Rows L2 HotX L2H LamX
/-! ### a body whose end knows the slots -/
abbrev TR := (V → L2.St → Hp → Prop) → L2.St → Hp → Prop
def EndR (X : Cx) (pins : List (Addr × Obj)) (R : V → L2.St → Hp → Prop) (f : Flow) (s : Shared) : Prop := match f with
  | .ret u => ∃ v σ H, Inv X pins σ H s ∧ RelV v u ∧ R v σ H
  | _ => False
structure PSr (X : Cx) (st : List Stmt) (t : TR) : Prop where
  run : ∀ (pins : List (Addr × Obj)) (s : Shared) (σ : L2.St) (H : Hp) (R : V → L2.St → Hp → Prop), Inv X pins σ H s → t R σ H → wpAny (model X.prog X.w) X.A (execs st X.env) (EndR X pins R) X.xe s
def tSeqR (t : TS) (u : TR) : TR := fun R σ H => t { nx := fun σ1 H1 => u R σ1 H1, rt := fun _ _ => False } σ H
section
variable {X : Cx}
theorem psr_cons {st : Stmt} {rest : List Stmt} {t : TS} {u : TR} (h1 : PS X st t) (h2 : PSr X rest u) : PSr X (st :: rest) (tSeqR t u) := by
  refine ⟨fun pins s σ H R I h => wpAny_execs_cons (thn (h1.run pins s σ H _ I h) fun f s1 q => ?_)⟩
  match f, q with
  | .next, ⟨σ1, H1, I1, q⟩ => exact h2.run pins s1 σ1 H1 R I1 q
  | .ret v, ⟨_, _, _, _, _, q⟩ => exact False.elim q
  | .brk, ⟨_, _, _, q⟩ => exact False.elim q
  | .cont, ⟨_, _, _, q⟩ => exact False.elim q
def tRetR (te : TE) : TR := fun R σ H => te σ H fun v H1 => R v σ H1
theorem psr_ret {e : Expr} {te : TE} {pos : Pos} (he : PE X e te) : PSr X [.Return (some e) pos] (tRetR te) :=
  ⟨fun pins s σ H R I h => wpAny_execs_cons (wpAny_Return_some (thn (he.run pins s σ H _ I h) fun v s1 ⟨x, H1, I1, r1, q1⟩ => ⟨x, σ, H1, I1, r1, q1⟩))⟩
theorem PSr.nox {st : List Stmt} {t : TR} (h : PSr X.nox st t) : PSr X st t := by
  refine ⟨fun pins s σ H R I hw => wpAny_mono (h.run pins s σ H R (I.wish _) hw) (fun f s1 q => ?_) fun _ _ z => False.elim z⟩
  match f, q with
  | .ret u, ⟨v, σ1, H1, I1, r, q⟩ => exact ⟨v, σ1, H1, I1.unwish, r, q⟩
end
/-! ### the cells that are given back -/
def csOf (cells : List (Str × Addr)) (caps : List (Str × Nat)) (σ : L2.St) : List (Addr × V) := caps.filterMap fun p => match cells.lookup p.1, σ[p.2]? with
  | some c, some (some v) => some (c, v)
  | _, _ => none
theorem mem_lookN : ∀ {l : List (Addr × V)} {c : Addr} {v : V}, l.lookup c = some v → (c, v) ∈ l
  | [], _, _, h => by cases h
  | (a, u) :: l, c, v, h => by
    rw [List.lookup_cons] at h
    split at h
    · rename_i e
      cases h
      rw [eq_of_beq e]
      exact List.mem_cons_self
    · exact List.mem_cons_of_mem _ (mem_lookN h)
theorem csOf_mem {cells : List (Str × Addr)} {caps : List (Str × Nat)} {σ : L2.St} {c : Addr} {v : V} (h : (csOf cells caps σ).lookup c = some v) : ∃ p ∈ caps, cells.lookup p.1 = some c ∧ σ[p.2]? = some (some v) := by
  have hm := mem_lookN h
  obtain ⟨p, hp, e⟩ := List.mem_filterMap.mp hm
  refine ⟨p, hp, ?_⟩
  split at e
  · rename_i c1 v1 e1 e2
    cases e
    exact ⟨e1, e2⟩
  · cases e
/-- the cells are apart and not tracked -/
structure CellsOk (cells : List (Str × Addr)) (H : Hp) : Prop where
  inj : ∀ x y c, cells.lookup x = some c → cells.lookup y = some c → x = y
  free : ∀ y c, cells.lookup y = some c → H c = none
theorem csOf_free {cells : List (Str × Addr)} {caps : List (Str × Nat)} {σ : L2.St} {H : Hp} (k : CellsOk cells H) : ∀ c v, (csOf cells caps σ).lookup c = some v → H c = none := fun c v h => by
  obtain ⟨p, _, e, _⟩ := csOf_mem h
  exact k.free _ _ e
theorem csOf_at {cells : List (Str × Addr)} {caps : List (Str × Nat)} {σ : L2.St} {H : Hp} {N : List Str} (nd : N.Nodup) (k : CellsOk cells H) (hN : ∀ p ∈ caps, N[p.2]? = some p.1) {y : Str} {i : Nat} {c : Addr} {v : V} (hp : (y, i) ∈ caps) (hc : cells.lookup y = some c) (hv : σ[i]? = some (some v)) :
    (csOf cells caps σ).lookup c = some v := by
  have hm : (c, v) ∈ csOf cells caps σ := List.mem_filterMap.mpr ⟨(y, i), hp, by simp only [hc, hv]⟩
  cases e : (csOf cells caps σ).lookup c with
  | none =>
    rw [List.lookup_eq_none_iff] at e
    exact absurd (e _ hm) (by simp)
  | some v1 =>
    obtain ⟨p, hp1, e1, e2⟩ := csOf_mem e
    have ey := k.inj _ _ _ e1 hc
    have h1 := hN p hp1
    have h2 := hN _ hp
    rw [ey] at h1
    have ei : p.2 = i := by
      obtain ⟨l1, g1⟩ := List.getElem?_eq_some_iff.mp h1
      obtain ⟨l2, g2⟩ := List.getElem?_eq_some_iff.mp h2
      have pw := List.pairwise_iff_getElem.mp nd
      rcases Nat.lt_trichotomy p.2 i with lt | eq | gt
      · exact absurd (g1.trans g2.symm) (pw _ _ l1 l2 lt)
      · exact eq
      · exact absurd (g2.trans g1.symm) (pw _ _ l2 l1 gt)
    rw [ei, hv] at e2
    cases e2
    rfl
/-- the def's lambda at f, once the def has ended -/
theorem clo_of {cells : List (Str × Addr)} {caps : List (Str × Nat)} {N : List Str} {σ : L2.St} {H : Hp} {f d : Addr} {q : Str} {prm : Arguments} {body : Expr} {sc : Scope} (nd : N.Nodup) (k : CellsOk cells H) (hf : H f = some (LamO f q prm body sc (cloFrom cells sc.names []) d)) (hd : H d = some (CodeO d q))
    (hN : ∀ p ∈ caps, N[p.2]? = some p.1) (hc : ∀ p ∈ caps, ∃ c, cells.lookup p.1 = some c) (hσ : ∀ p ∈ caps, ∃ v, σ[p.2]? = some (some v)) (cap : ∀ y ∈ sc.names, y.2 = .free → ∃ i, (y.1, i) ∈ caps) : CloAt (keepC (csOf cells caps σ) H) f q prm body sc N σ := by
  have nc : ∀ {b : Addr} {o : HO}, H b = some o → (csOf cells caps σ).lookup b = none := fun {b o} e => by
    cases z : (csOf cells caps σ).lookup b with
    | none => rfl
    | some v => rw [csOf_free k b v z] at e; cases e
  have cm : ∀ {y c}, (y, c) ∈ cloFrom cells sc.names [] → cells.lookup y = some c ∧ ∃ i, (y, i) ∈ caps := fun {y c} e => by
    rcases cloFrom_mem e with hm | ⟨h1, h2⟩
    · cases hm
    · obtain ⟨i, hi⟩ := cap _ h1 rfl
      obtain ⟨c1, e1⟩ := hc _ hi
      have e1 : cells.lookup y = some c1 := e1
      have e2 : c = c1 := by
        rw [h2, e1] <;> rfl
      rw [e2]
      exact ⟨e1, i, hi⟩
  have at_ : ∀ {y c}, (y, c) ∈ cloFrom cells sc.names [] → ∃ (i : Nat) (v : V), N[i]? = some y ∧ σ[i]? = some (some v) ∧ keepC (csOf cells caps σ) H c = some (CellO c v) := fun {y c} e => by
    obtain ⟨e1, i, hi⟩ := cm e
    obtain ⟨v, hv⟩ := hσ _ hi
    exact ⟨i, v, hN _ hi, hv, keepC_at (csOf_at nd k hN hi e1 hv)⟩
  refine ⟨_, d, by rw [keepC_ne (nc hf)]; exact hf, by rw [keepC_ne (nc hd)]; exact hd, fun x y c e1 e2 => k.inj x y c (cm (PySem.mem_of_lookup e1)).1 (cm (PySem.mem_of_lookup e2)).1, fun p hp => ?_, fun y c e => at_ (PySem.mem_of_lookup e), fun y e => mem_lookup (cloFrom_has (cells := cells) (acc := []) (PySem.mem_of_lookup e))⟩
  obtain ⟨_, v, _, _, h⟩ := at_ (y := p.1) (c := p.2) hp
  exact ⟨v, h⟩
/-- a def that gives lambdas back: caps are the names that they capture -/
theorem funC {P : Program} {w : World} {K : PySem.W.Frag} {mg : Str → Option Value} {base : Heap} {x qual : Str} {st : Stmt} {f c : Addr} {fd : FuncData} {N ps : List Str} {k : Nat} {sp : Sp} (caps : List (Str × Nat))
    (F : Fun K x qual st f fd) (C : CodeAt K f c) (S : FnScope N ps (defScope st)) (len : ∀ vs H Q E, sp vs H Q E → vs.length = ps.length) (hcap : ∀ p ∈ caps, N[p.2]? = some p.1 ∧ (defScope st).names.lookup p.1 = some .cell)
    (go : ∀ (A : Around) (outer : List Env) (s : Shared) (H : Hp) (vs : List V) (Q : VK) (E : XK), Room k (A.deeper (envOfC qual (defScope st) s.heap.objs.size f (.ref c))) → sp vs H Q E →
      ∃ t, PSr (cxOf L2.CX0 P w K mg base N qual (defScope st) f (.ref c) A outer s H E).nox (defBody st) t ∧ t (fun v σ H1 => CellsOk (cellsFrom (s.heap.objs.size + 1) (defScope st).names []) H1 → (∀ p ∈ caps, ∃ c, (cellsFrom (s.heap.objs.size + 1) (defScope st).names []).lookup p.1 = some c) →
        Q v (keepC (csOf (cellsFrom (s.heap.objs.size + 1) (defScope st).names []) caps σ) H1)) (L2.start N vs) H) :
    FnOk P w K mg base L2.CX0 (k + 1) f fd ps sp := by
  obtain ⟨oc, od, kV, doc, pm, an, cdv, ct, osl, rfl, lk, hcd⟩ := F.ex
  obtain ⟨_, _, fd1, _, lk1, e⟩ := C
  have z := lk.symm.trans lk1
  cases z
  obtain rfl : cdv = .ref c := e
  refine ⟨len, fun A outer s H args us vs Q E hr e0 hb r hsp => ?_⟩
  have KX : K.In s.heap := e0.mod.kin.keeps fun b o e => (e0.bs b o e).1
  have lim : s.heap.NoLimit := e0.mod.nolimit.keeps fun b o e => (e0.bs b o e).1
  have kd : ∀ y ∈ ps.zip us, (defScope st).names.lookup y.1 = some .local ∨ ((defScope st).names.lookup y.1 = some .cell ∧ ((cellsFrom (s.heap.objs.size + 1) (defScope st).names []).lookup y.1).isSome = true) := fun y hy =>
    (S.par y.1 (List.of_mem_zip hy).1).imp id fun q => ⟨q, PySem.W.cellsFrom_some _ _ _ (.inl q)⟩
  refine codeAny_call_function hr.depth (KX _ _ lk) rfl S.co S.gen rfl (PySem.W.codeRec_of KX hcd) (hb _ _ _ _ (wpAny_newFunctionEnv_cells S.kind kd fun env he s1 y => ?_))
  subst he
  obtain ⟨t, ht, hq⟩ := go A outer s H vs Q E (hr.deeper _) hsp
  have J : Inv (cxOf L2.CX0 P w K mg base N qual (defScope st) f (.ref c) A outer s H E) [] (L2.start N vs) H s1 := inv_start S hr.hd e0 (len _ _ _ _ hsp) r y
  refine ⟨lim.keeps y.toInCall.keep, codeAny_func (wpAny_mono (ht.nox.run [] s1 _ H _ J hq) (fun fl s2 hs => ?_) fun e s2 hs => hs)⟩
  match fl, hs with
  | .ret u, ⟨v, σ1, H1, I, rv, q⟩ =>
    have ck : CellsOk (cellsFrom (s.heap.objs.size + 1) (defScope st).names []) H1 := ⟨I.ok.inj, I.freeC⟩
    have hc : ∀ p ∈ caps, ∃ c, (cellsFrom (s.heap.objs.size + 1) (defScope st).names []).lookup p.1 = some c := fun p hp => I.ok.has _ (.inl (hcap p hp).2)
    have fr := csOf_free (caps := caps) (σ := σ1) ck
    have new : ∀ b v, (csOf (cellsFrom (s.heap.objs.size + 1) (defScope st).names []) caps σ1).lookup b = some v → s.heap.objs.size ≤ b := fun b v e => by
      obtain ⟨p, _, e1, _⟩ := csOf_mem e
      exact I.ok.cab _ _ rfl e1
    have un : Un (frs outer) [] H H1 s.heap s2.heap := I.base
    have old : ∀ b, b < s.heap.objs.size → keepC (csOf (cellsFrom (s.heap.objs.size + 1) (defScope st).names []) caps σ1) H1 b = H1 b := fun b lt => keepC_ne (by
      cases z : (csOf (cellsFrom (s.heap.objs.size + 1) (defScope st).names []) caps σ1).lookup b with
      | none => rfl
      | some v => exact absurd (new b v z) (Nat.not_le_of_lt lt))
    have sm := keepC_same fr
    refine ⟨v, keepC (csOf (cellsFrom (s.heap.objs.size + 1) (defScope st).names []) caps σ1) H1, I.os, I.bare, ⟨un.keep, un.slot, fun b o e n h => by rw [old b (Heap.lt_size e)]; exact un.free b o e n h, un.there, fun b xs e => sm _ _ (un.tups b xs e), fun b o u e => sm _ _ (un.frzs b o u e), fun b ps e => ?_⟩, fun b o e => ?_, rv, q ck hc⟩
    · obtain ⟨more, z⟩ := un.tbls b ps e
      exact ⟨more, sm _ _ z⟩
    · cases z : (csOf (cellsFrom (s.heap.objs.size + 1) (defScope st).names []) caps σ1).lookup b with
      | none =>
        rw [keepC_ne z] at e
        exact (I.hok b o e).stay (fun _ _ _ g => g) (fun d g => sm _ _ g) fun d xs g => sm _ _ g
      | some v1 =>
        rw [keepC_at z] at e
        cases e
        obtain ⟨p, hp, e1, e2⟩ := csOf_mem z
        obtain ⟨m, _, hl⟩ := I.loc
        obtain ⟨u1, r1, lo⟩ := hl p.2 p.1 v1 (hcap p hp).1 e2 (.inr (.inl (hcap p hp).2))
        rcases lo with ⟨kl, _⟩ | ⟨_, c1, e3, cell⟩
        · have kl : (defScope st).names.lookup p.1 = some .local := kl
          rw [(hcap p hp).2] at kl
          cases kl
        · have e3 : (cellsFrom (s.heap.objs.size + 1) (defScope st).names []).lookup p.1 = some c1 := e3
          rw [e1] at e3
          cases e3
          exact cellO_ok r1 cell
end HT

/-! A tracked lambda is called: its cells are let go for the time of the call. -/
namespace HT
open PySem PySem.Spec PyProof.Rows L2 HotX L2H LamX
/-! ### the heap without the cells of cl, and with them again -/
def lessC (cl : List (Str × Addr)) (H : Hp) : Hp := fun b => if b ∈ cl.map (·.2) then none else H b
def backC (cl : List (Str × Addr)) (H0 H : Hp) : Hp := fun b => if b ∈ cl.map (·.2) then H0 b else H b
theorem lessC_in {cl : List (Str × Addr)} {H : Hp} {b : Addr} (h : b ∈ cl.map (·.2)) : lessC cl H b = none := if_pos h
theorem lessC_out {cl : List (Str × Addr)} {H : Hp} {b : Addr} (h : b ∉ cl.map (·.2)) : lessC cl H b = H b := if_neg h
theorem backC_in {cl : List (Str × Addr)} {H0 H : Hp} {b : Addr} (h : b ∈ cl.map (·.2)) : backC cl H0 H b = H0 b := if_pos h
theorem backC_out {cl : List (Str × Addr)} {H0 H : Hp} {b : Addr} (h : b ∉ cl.map (·.2)) : backC cl H0 H b = H b := if_neg h
theorem lessC_same (cl : List (Str × Addr)) (H : Hp) : Same (lessC cl H) H := fun b o e => by
  by_cases h : b ∈ cl.map (·.2)
  · rw [lessC_in h] at e
    cases e
  · rw [lessC_out h] at e
    exact e
theorem lessC_none {cl : List (Str × Addr)} {H : Hp} {b : Addr} (h : H b = none) : lessC cl H b = none := by
  by_cases z : b ∈ cl.map (·.2)
  · exact lessC_in z
  · rw [lessC_out z]
    exact h
/-- behind a call within: what was there is there -/
theorem backC_same {cl : List (Str × Addr)} {H0 H : Hp} (s : Same (lessC cl H0) H) : Same H0 (backC cl H0 H) := fun b o e => by
  by_cases h : b ∈ cl.map (·.2)
  · rw [backC_in h]
    exact e
  · rw [backC_out h]
    exact s b o (by rw [lessC_out h]; exact e)
section
variable {P : Program} {w : World} {K : PySem.W.Frag} {mg : Str → Option Value} {base : Heap}
/-- the context of such a lambda's body -/
def cloCx (P : Program) (w : World) (K : PySem.W.Frag) (mg : Str → Option Value) (base : Heap) (N : List Str) (q : Str) (sc : Scope) (cl : List (Str × Addr)) (A : Around) (outer : List Env) (s : Shared) (H : Hp) (E : XK) (f c : Addr) : Cx where
  prog := P
  w := w
  K := K
  mg := mg
  base := base
  A := A.deeper (PySem.W.envX q sc s.heap.objs.size f (.ref c) cl)
  N := N
  s_0 := s
  H_0 := H
  env := PySem.W.envX q sc s.heap.objs.size f (.ref c) cl
  outer := outer
  stack := PySem.W.envX q sc s.heap.objs.size f (.ref c) cl :: outer
  ex := []
  fn := fun _ => false
  calm := true
  pn := []
  xe := fun e s1 => wpAny (model P w) (A.deeper (PySem.W.envX q sc s.heap.objs.size f (.ref c) cl)) (leaving (PySem.W.envX q sc s.heap.objs.size f (.ref c) cl) e) (fun _ s2 => CXn P w outer H s E e s2) (fun e2 s2 => CXn P w outer H s E e2 s2) s1
theorem takesC {N : List Str} {q : Str} {sc : Scope} {cl : List (Str × Addr)} {A : Around} {outer : List Env} {s : Shared} {H : Hp} {E : XK} {f c : Addr} : L2N.Takes (cloCx P w K mg base N q sc cl A outer s H E f c) (fun cls d _ H => E cls d H) := L2N.takes_of rfl rfl rfl rfl
theorem passC {N : List Str} {q : Str} {sc : Scope} {cl : List (Str × Addr)} {A : Around} {outer : List Env} {s : Shared} {H : Hp} {E : XK} {f c : Addr} : Passes (CXn P w) (cloCx P w K mg base N q sc cl A outer s H E f c) E := L2N.passes_call (X := cloCx P w K mg base N q sc cl A outer s H E f c) takesC fun _ _ _ _ h => h
theorem lessC_ok {cl : List (Str × Addr)} {H : Hp} {h : Heap} (x : HOk P w H h) (cell : ∀ p ∈ cl, ∃ v, H p.2 = some (CellO p.2 v)) : HOk P w (lessC cl H) h := fun b o e => by
  have nx : ∀ {d : Addr} {u : HO}, H d = some u → (∀ φ, u ≠ .ext φ) → lessC cl H d = some u := fun {d u} e n => by
    rw [lessC_out fun hm => ?_]
    · exact e
    · obtain ⟨p, hp, ep⟩ := List.mem_map.mp hm
      obtain ⟨v, hv⟩ := cell p hp
      rw [← ep, hv] at e
      exact n _ (Option.some.inj e).symm
  exact (x b o (lessC_same cl H b o e)).stay (fun _ _ _ g => g) (fun d g => nx g fun φ z => by cases z) fun d xs g => nx g fun φ z => by cases z
theorem clo_start {A : Around} {outer : List Env} {s : Shared} {H : Hp} {E : XK} {f c : Addr} {q : Str} {prm : Arguments} {body : Expr} {sc sc0 : Scope} {N : List Str} {σ : L2.St} {cl : List (Str × Addr)} {j : Heap} {tk : Nat} (F : CloF H f q prm body sc N σ cl c) (L : LamS sc0 sc) (hlen : σ.length = N.length)
    (nd : N.Nodup) (e0 : Env0 P w K mg base A outer s H) (hd : A.handled = none) (ns : j.Ns s.heap.objs.size fun y => ([] : List (Str × Value)).reverse.lookup y) (kp : ∀ b o, s.heap.get? b = some o → j.get? b = some o) :
    Inv (cloCx P w K mg base N q sc cl A outer s (lessC cl H) E f c) [] σ (lessC cl H) { s with heap := j, toks := tk } := by
  have hok := lessC_ok e0.hok F.cell
  have incl : ∀ {y : Str} {d : Addr}, cl.lookup y = some d → d ∈ cl.map (·.2) := fun {y d} e => List.mem_map.mpr ⟨(y, d), PySem.mem_of_lookup e, rfl⟩
  have noA : ∀ b : Addr, b ∉ (cloCx P w K mg base N q sc cl A outer s (lessC cl H) E f c).ex := fun b z => absurd (show b ∈ ([] : List Addr) from z) (by simp)
  have isC : ∀ {d : Addr} {v : V}, H d = some (CellO d v) → ∃ u, RelV v u ∧ j.IsCell d (some u) := fun {d v} e => by
    obtain ⟨⟨u, r, o, ho, hd⟩, _, _⟩ := e0.hok d _ e
    exact ⟨u, r, o, kp _ _ ho, hd⟩
  refine ⟨⟨e0.mod, L.kind, rfl, rfl, Nat.le_refl _, F.inj, fun y hy => ?_, fun y d z _ => ?_, fun _ => hd, Around.frames_deeper e0.frames, .inr ⟨rfl, rfl⟩, fun b z => absurd z (noA b), fun b o e => ⟨(e0.bs b o e).1, lessC_none (e0.bs b o e).2⟩, e0.bsz, fun b _ _ => noA b,
      fun b z => absurd z (noA b), e0.funs, fun b hb => lessC_none (e0.frf b hb)⟩,
    rfl, e0.bare, Un.kept kp, ⟨_, ns, fun i y v e1 e2 e3 => ?_⟩, fun y d e => ?_, hok.fresh (Nat.le_refl _), fun y d e => lessC_in (incl e), fun p hp => absurd (show p ∈ ([] : List (Addr × Obj)) ++ [] from hp) (by simp), hok.kept kp, hlen⟩
  · have hy : sc.names.lookup y = some .cell ∨ sc.names.lookup y = some .free := hy
    rcases hy with hy | hy
    · exact absurd rfl (L.own _ (PySem.mem_of_lookup hy)).2
    · exact F.has y hy
  · have z : false = true := z
    cases z
  · have e1 : N[i]? = some y := e1
    have e3 : Vis sc y := e3
    rcases e3 with k | k | k
    · exact absurd rfl (L.own _ (PySem.mem_of_lookup k)).1
    · exact absurd rfl (L.own _ (PySem.mem_of_lookup k)).2
    · obtain ⟨d, hd⟩ := F.has y k
      obtain ⟨i2, v2, g1, g2, g3⟩ := F.val y d hd
      have ei : i = i2 := by
        obtain ⟨l1, q1⟩ := List.getElem?_eq_some_iff.mp e1
        obtain ⟨l2, q2⟩ := List.getElem?_eq_some_iff.mp g1
        have pw := List.pairwise_iff_getElem.mp nd
        rcases Nat.lt_trichotomy i i2 with lt | eq | gt
        · exact absurd (q1.trans q2.symm) (pw _ _ l1 l2 lt)
        · exact eq
        · exact absurd (q2.trans q1.symm) (pw _ _ l2 l1 gt)
      rw [← ei, e2] at g2
      cases g2
      obtain ⟨u, r, ic⟩ := isC g3
      exact ⟨u, r, .inr ⟨.inr k, d, hd, ic⟩⟩
  · have e : cl.lookup y = some d := e
    obtain ⟨i2, v2, g1, g2, g3⟩ := F.val y d e
    obtain ⟨u, r, ic⟩ := isC g3
    exact ⟨_, ic⟩
/-- behind the call, the cells are tracked again -/
theorem clo_back {A : Around} {outer : List Env} {s s2 : Shared} {H : Hp} {f c : Addr} {q : Str} {prm : Arguments} {body : Expr} {sc : Scope} {N : List Str} {σ : L2.St} {cl : List (Str × Addr)} {Q : VK} {E : XK} {r : Result} (F : CloF H f q prm body sc N σ cl c) (e0 : Env0 P w K mg base A outer s H)
    (h : CR (CXn P w) outer P w (lessC cl H) s (fun v H2 => Q v (backC cl H H2)) (fun cls d H2 => E cls d (backC cl H H2)) r s2) : CR (CXn P w) outer P w H s Q E r s2 := by
  have cobj : ∀ b ∈ cl.map (·.2), ∃ v, H b = some (CellO b v) := fun b hb => by
    obtain ⟨p, hp, ep⟩ := List.mem_map.mp hb
    obtain ⟨v, hv⟩ := F.cell p hp
    rw [ep] at hv
    exact ⟨v, hv⟩
  have nofr : ∀ b ∈ cl.map (·.2), b ∉ frs outer := fun b hb hm => by
    obtain ⟨v, hv⟩ := cobj b hb
    rw [e0.frf b hm] at hv
    cases hv
  have out : ∀ {b : Addr}, H b = none → b ∉ cl.map (·.2) := fun {b} n hm => by
    obtain ⟨v, hv⟩ := cobj b hm
    rw [n] at hv
    cases hv
  have outX : ∀ {b : Addr} {o : HO}, H b = some o → (∀ φ, o ≠ .ext φ) → b ∉ cl.map (·.2) := fun {b o} e n hm => by
    obtain ⟨v, hv⟩ := cobj b hm
    rw [hv] at e
    exact n _ (Option.some.inj e).symm
  match r, h with
  | .ok (.ret u), ⟨v, H2, os, bare, un, hok, rv, qv⟩ =>
    have h2 : ∀ b ∈ cl.map (·.2), H2 b = none := fun b hb => by
      obtain ⟨v, hv⟩ := cobj b hb
      obtain ⟨⟨_, _, o, ho, _⟩, _, _⟩ := e0.hok b _ hv
      exact un.free b o ho (lessC_in hb) (by simp)
    have sm : ∀ {b : Addr} {o : HO}, H2 b = some o → backC cl H H2 b = some o := fun {b o} e => by
      rw [backC_out fun hm => by rw [h2 b hm] at e; cases e]
      exact e
    refine ⟨v, backC cl H H2, os, bare, ⟨fun b o e n => un.keep b o e (lessC_none n), fun b o e n => un.slot b o e (lessC_none n), fun b o e n hx => ?_, un.there, fun b xs e => ?_, fun b o u e => ?_, fun b ps e => ?_⟩, fun b o e => ?_, rv, qv⟩
    · rw [backC_out (out n)]
      exact un.free b o e (lessC_none n) hx
    · exact sm (un.tups b xs (by rw [lessC_out (outX e fun φ z => by cases z)]; exact e))
    · exact sm (un.frzs b o u (by rw [lessC_out (outX e fun φ z => by cases z)]; exact e))
    · obtain ⟨more, z⟩ := un.tbls b ps (by rw [lessC_out (outX e fun φ z => by cases z)]; exact e)
      exact ⟨more, sm z⟩
    · by_cases hb : b ∈ cl.map (·.2)
      · rw [backC_in hb] at e
        obtain ⟨v, hv⟩ := cobj b hb
        rw [hv] at e
        cases e
        obtain ⟨⟨u, ru, ob, ho, hdc⟩, _, _⟩ := e0.hok b _ hv
        exact cellO_ok ru ⟨ob, un.keep b ob ho (lessC_in hb) (nofr b hb) (by simp), hdc⟩
      · rw [backC_out hb] at e
        exact (hok b o e).stay (fun _ _ _ g => g) (fun d g => sm g) fun d xs g => sm g
  | .error e, ⟨a, B, H2, cls, d, eu, fl, hok, ub, na, os, ag, hE⟩ =>
    have hB : ∀ b ∈ cl.map (·.2), ∃ o v u, B.get? b = some o ∧ H b = some (CellO b v) ∧ RelV v u ∧ o.data = .cell (some u) := fun b hb => by
      obtain ⟨v, hv⟩ := cobj b hb
      obtain ⟨⟨u, ru, o, ho, hdc⟩, _, _⟩ := e0.hok b _ hv
      exact ⟨o, v, u, ub.keep b o ho (lessC_in hb) (nofr b hb), hv, ru, hdc⟩
    have h2 : ∀ b ∈ cl.map (·.2), H2 b = none := fun b hb => by
      obtain ⟨v, hv⟩ := cobj b hb
      obtain ⟨⟨_, _, o, ho, _⟩, _, _⟩ := e0.hok b _ hv
      exact ub.free b o ho (lessC_in hb)
    have sm : ∀ {b : Addr} {o : HO}, H2 b = some o → backC cl H H2 b = some o := fun {b o} e => by
      rw [backC_out fun hm => by rw [h2 b hm] at e; cases e]
      exact e
    have nB : B.get? a = none := fl.2.1
    refine ⟨a, B, backC cl H H2, cls, d, eu, fl, fun b o e => ?_, ⟨fun b o e n => ub.keep b o e (lessC_none n), ub.slot, fun b o e n => ?_, ub.there, fun b xs e => ?_, fun b o u e => ?_, fun b ps e => ?_⟩, ?_, os, ag, hE⟩
    · by_cases hb : b ∈ cl.map (·.2)
      · rw [backC_in hb] at e
        obtain ⟨ob, v, u, g1, g2, g3, g4⟩ := hB b hb
        rw [g2] at e
        cases e
        exact cellO_ok g3 ⟨ob, g1, g4⟩
      · rw [backC_out hb] at e
        exact (hok b o e).stay (fun _ _ _ g => g) (fun d g => sm g) fun d xs g => sm g
    · rw [backC_out (out n)]
      exact ub.free b o e (lessC_none n)
    · exact sm (ub.tups b xs (by rw [lessC_out (outX e fun φ z => by cases z)]; exact e))
    · exact sm (ub.frzs b o u (by rw [lessC_out (outX e fun φ z => by cases z)]; exact e))
    · obtain ⟨more, z⟩ := ub.tbls b ps (by rw [lessC_out (outX e fun φ z => by cases z)]; exact e)
      exact ⟨more, sm z⟩
    · rw [backC_out fun hm => by
        obtain ⟨ob, _, _, g1, _⟩ := hB a hm
        rw [nB] at g1
        cases g1]
      exact na
  | .ok .next, h => exact False.elim h
  | .ok .brk, h => exact False.elim h
  | .ok .cont, h => exact False.elim h
end
section
variable {X : Cx}
/-- what the call of such a lambda reads, the def that got it entered at H -/
def tClo (f : Addr) (q : Str) (prm : Arguments) (body : Expr) (sc : Scope) (N : List Str) (σ : L2.St) (cl : List (Str × Addr)) (c : Addr) (tb : XK → TE) : XK → Hp → VK → Prop := fun E H Q =>
  CloF H f q prm body sc N σ cl c ∧ tb (fun cls d H2 => E cls d (backC cl H H2)) σ (lessC cl H) (fun v H2 => Q v (backC cl H H2))
theorem actC {Ng : List Str} {qg : Str} {sg : Scope} {g f c : Addr} {cdg : Value} {s : Shared} {H : Hp} {q : Str} {prm : Arguments} {body : Expr} {sc sc0 : Scope} {N : List Str} {σ : L2.St} {cl : List (Str × Addr)} {k : Nat} {a : Str} {pn : List (Addr × Obj)} {xe : Value → Shared → Prop}
    {W : WX} {E : XK} {tb : XK → TE} {p1 p2 : Pos} (L : LamS sc0 sc) (hlen : σ.length = N.length) (nd : N.Nodup) (hb : ∀ (pm ctv : Value), bindArgs (PySem.W.kla_fn "<lambda>" q prm body sc cl pm (.ref c) ctv) ⟨[], []⟩ = pure [])
    (tk : L2N.Takes ((gotCx X Ng qg sg g cdg s H).tr pn xe) W) (hr : Room (k + 1) (X.A.deeper (envOfC qg sg s.heap.objs.size g cdg)))
    (run : ∀ (A : Around) (outer : List Env) (s : Shared) (H : Hp) (E : XK), Room k (A.deeper (PySem.W.envX q sc s.heap.objs.size f (.ref c) cl)) → PE (cloCx X.prog X.w X.K X.mg X.base N q sc cl A outer s H E f c) body (tb E))
    (hN : Ng[0]? = some a) (hv : Vis sg a) (h1 : (a == ("__debug__" : Str)) = false) (h2 : (a == ("__classdict__" : Str)) = false) :
    PE ((gotCx X Ng qg sg g cdg s H).tr pn xe) (.Call (.Name a p1) [] [] p2) (tAct f c q W E (tClo f q prm body sc N σ cl c tb E)) := by
  refine ⟨fun pinsZ sZ σZ HZ Q IZ ⟨hs, hc, hW, F0, ht0⟩ => ?_⟩
  have look := (pe_var (pos := p1) (i := 0) hN hv h1 h2).run pinsZ sZ σZ HZ (fun v H1 => v = .ref f ∧ H1 = HZ) IZ ⟨.ref f, hs, rfl, rfl⟩
  refine wpAny_Call_Name_kw (thn look fun u s1 ⟨v, H1, I1, r1, ev, eH⟩ => ?_)
  subst ev
  rw [eH] at I1
  obtain rfl : u = Value.ref f := r1
  have F := F0
  have ht := ht0
  obtain ⟨⟨pm, ctv, at1⟩, _, _⟩ := I1.hok f _ F.hf
  refine PySem.W.callWith_F0 ⟨_, _, _, _, at1⟩ ?_
  obtain ⟨⟨oc, vs, t, hoc, hdc, hvc⟩, _, _⟩ := I1.hok c _ F.hc
  have rc : codeAny (model X.prog X.w) (X.A.deeper (envOfC qg sg s.heap.objs.size g cdg)) (.call (.ref f) ⟨[], []⟩)
      (CR (CXn X.prog X.w) (envOfC qg sg s.heap.objs.size g cdg :: X.stack) X.prog X.w (lessC cl HZ) s1 (fun v H2 => Q v (backC cl HZ H2)) (fun cls d H2 => E cls d (backC cl HZ H2))) s1 := by
    refine PySem.W.kla_callFunE hr.depth at1 rfl L.co L.gen rfl ⟨c, oc, vs, t, rfl, hoc, hdc, hvc⟩ ?_
    rw [hb]
    refine wpAny_pure (wpAny_newFunctionEnv (fun y hy => (L.own y hy).2) (fun y hy => absurd hy (by simp)) (fun j ns sb => ⟨I1.nolimit.fresh _ sb, ?_⟩) L.kind)
    have kp : ∀ b o, s1.heap.get? b = some o → j.get? b = some o := fun b o e => sb.extBut b o (Nat.ne_of_lt (Heap.lt_size e)) (Heap.get?_push_of_some _ e)
    have J := clo_start (E := fun cls d H2 => E cls d (backC cl HZ H2)) (tk := s1.toks + ([] : List (Str × Value)).length) F L hlen nd I1.env0 hr.hd ns kp
    refine PySem.W.kla_codeExpr (wpAny_mono ((run _ _ s1 (lessC cl HZ) _ (hr.deeper _)).run [] _ _ (lessC cl HZ) _ J ht) (fun v s2 ⟨w2, H2, J2, r2, q2⟩ => ?_) fun e s2 hq => hq)
    exact ⟨w2, H2, J2.os, J2.bare, J2.base, J2.hok, r2, q2⟩
  refine wpAny_call (codeAny_mono rc fun r s2 hq => ?_)
  have hq := clo_back F I1.env0 hq
  match r, hq with
  | .error e, hq => exact tk e s2 (L2N.XE.of_call I1 hW hq)
  | .ok (.ret u), hq => exact I1.after hq
  | .ok .next, hq => exact False.elim hq
  | .ok .brk, hq => exact False.elim hq
  | .ok .cont, hq => exact False.elim hq
end
end HT

/-! Doors: lambdas that call one thing; unions of promises; what is never reached. -/
namespace HT
open PySem PySem.Spec PyProof.Rows L2 HotX L2H LamX
/-! ### heaps, but for tables and what is tracked by a word -/
def Ex (H H' : Hp) : Prop := ∀ b o, H b = some o → (∀ ps, o ≠ .tbl ps) → (∀ φ, o ≠ .ext φ) → H' b = some o
theorem Ex.of {H H' : Hp} (e : ExtN H H') : Ex H H' := fun b o h n _ => e b o h n
theorem Ex.refl (H : Hp) : Ex H H := fun _ _ h _ _ => h
theorem Ex.trans {H H1 H2 : Hp} (a : Ex H H1) (b : Ex H1 H2) : Ex H H2 := fun c o h n m => b c o (a c o h n m) n m
theorem ex_less {H : Hp} {f c : Addr} {q : Str} {prm : Arguments} {body : Expr} {sc : Scope} {N : List Str} {σ : L2.St} {cl : List (Str × Addr)} (F : CloF H f q prm body sc N σ cl c) : Ex H (lessC cl H) := fun b o e _ n => by
  rw [lessC_out fun hm => ?_]
  · exact e
  · obtain ⟨p, hp, ep⟩ := List.mem_map.mp hm
    obtain ⟨v, hv⟩ := F.cell p hp
    rw [← ep, hv] at e
    exact n _ (Option.some.inj e).symm
open PS in
mutual
theorem dp_ex {K : PySem.W.Frag} {H H' : Hp} (x : Ex H H') : ∀ (d : PyData) (v : V), Dp K H v d → Dp K H' v d
  | .none, _, h => by cases h; exact .non
  | .bool b, _, h => by cases h; exact .bl b
  | .int i, _, h => by cases h; exact .int i
  | .str x, _, h => by cases h; exact .str x
  | .list ds, _, h => by
    cases h with
    | lst s al =>
      refine .lst ?_ (dpAll_ex x ds _ al)
      rcases s with (s | ⟨o, s⟩) | s
      · exact .inl (.inl (x _ _ s (fun ps z => by cases z) fun φ z => by cases z))
      · exact .inl (.inr ⟨o, x _ _ s (fun ps z => by cases z) fun φ z => by cases z⟩)
      · exact .inr s
  | .tuple ds, _, h => by
    cases h with
    | tup s al =>
      refine .tup ?_ (dpAll_ex x ds _ al)
      rcases s with (s | ⟨o, s⟩) | s
      · exact .inl (.inl (x _ _ s (fun ps z => by cases z) fun φ z => by cases z))
      · exact .inl (.inr ⟨o, x _ _ s (fun ps z => by cases z) fun φ z => by cases z⟩)
      · exact .inr s
  | .dict _, _, h => by cases h
theorem dpAll_ex {K : PySem.W.Frag} {H H' : Hp} (x : Ex H H') : ∀ (ds : List PyData) (vs : List V), DpAll K H vs ds → DpAll K H' vs ds
  | [], _, h => by cases h; exact .nil
  | d :: ds, _, h => by
    cases h with
    | cons h1 h2 => exact .cons (dp_ex x d _ h1) (dpAll_ex x ds _ h2)
end
theorem Dpx {K : PySem.W.Frag} {H H' : Hp} {d : PyData} {v : V} (x : Ex H H') (h : Dp K H v d) : Dp K H' v d := dp_ex x d v h
/-! ### a lambda that calls one thing -/
section
variable {P : Program} {w : World} {K : PySem.W.Frag} {mg : Str → Option Value} {base : Heap}
/-- the lambda at f does what sp promises of vs -/
def Calls (P : Program) (w : World) (K : PySem.W.Frag) (mg : Str → Option Value) (base : Heap) (k : Nat) (sp : Sp) (vs : List V) (f : Addr) (H : Hp) : Prop :=
  ∃ (q : Str) (prm : Arguments) (body : Expr) (sc sc0 : Scope) (N : List Str) (σ : L2.St) (tb : XK → TE), CloAt H f q prm body sc N σ ∧ LamS sc0 sc ∧ σ.length = N.length ∧ N.Nodup ∧
    (∀ (cl : List (Str × Addr)) (pm cv ctv : Value), bindArgs (PySem.W.kla_fn "<lambda>" q prm body sc cl pm cv ctv) ⟨[], []⟩ = pure []) ∧
    (∀ (cl : List (Str × Addr)) (c : Addr) (A : Around) (outer : List Env) (s : Shared) (H : Hp) (E : XK), Room k (A.deeper (PySem.W.envX q sc s.heap.objs.size f (.ref c) cl)) → PE (cloCx P w K mg base N q sc cl A outer s H E f c) body (tb E)) ∧
    ∀ (H' : Hp) (Q : VK) (E : XK), sp vs H' Q E → tb E σ H' Q
theorem Calls.ext {k : Nat} {sp : Sp} {vs : List V} {f : Addr} {H H' : Hp} (h : Calls P w K mg base k sp vs f H) (e : ExtN H H') : Calls P w K mg base k sp vs f H' := by
  obtain ⟨q, prm, body, sc, sc0, N, σ, tb, h1, h2⟩ := h
  exact ⟨q, prm, body, sc, sc0, N, σ, tb, h1.ext e, h2⟩
/-- the lambda at f is refused: an error of the class D -/
def Door (P : Program) (w : World) (K : PySem.W.Frag) (mg : Str → Option Value) (base : Heap) (k : Nat) (D : Addr) (f : Addr) (H : Hp) : Prop :=
  ∃ (sp : Sp) (vs : List V), Calls P w K mg base k sp vs f H ∧ ∀ (H' : Hp) (Q : VK) (E : XK), Ex H H' → (∀ H2, Same H' H2 → E (.ref D) none H2) → sp vs H' Q E
theorem Door.ext {k : Nat} {D f : Addr} {H H' : Hp} (h : Door P w K mg base k D f H) (e : ExtN H H') : Door P w K mg base k D f H' := by
  obtain ⟨sp, vs, h1, h2⟩ := h
  exact ⟨sp, vs, h1.ext e, fun H2 Q E x hE => h2 H2 Q E ((Ex.of e).trans x) hE⟩
/-! ### promises joined -/
theorem fn_or {k : Nat} {f : Addr} {fd : FuncData} {ps : List Str} {sp0 sp1 : Sp} (F0 : FnOk P w K mg base L2.CX0 k f fd ps sp0) (F1 : FnOk P w K mg base (CXn P w) k f fd ps sp1) :
    FnOk P w K mg base (CXn P w) k f fd ps (fun vs H Q E => sp0 vs H Q L2.E0 ∨ sp1 vs H Q E) := by
  refine ⟨fun vs H Q E h => h.elim (F0.len vs H Q _) (F1.len vs H Q E), fun A outer s H args us vs Q E hr e0 hb r h => ?_⟩
  rcases h with h | h
  · refine codeAny_mono (F0.run A outer s H args us vs Q L2.E0 hr e0 hb r h) fun r s1 q => ?_
    match r, q with
    | .error e, q => exact (show False from q).elim
    | .ok (.ret u), q => exact q
    | .ok .next, q => exact q
    | .ok .brk, q => exact q
    | .ok .cont, q => exact q
  · exact F1.run A outer s H args us vs Q E hr e0 hb r h
end
end HT

namespace PS
open PySem PySem.Spec PyProof.Rows L2
def topS (i : Nat) : Stmt := PySem.Challenge.pw_pushshelf_k12_what_is_refused.main.body.getD i (.Pass ⟨0, 0, 0, 0⟩)
abbrev s_wall : Stmt := topS 0
theorem sc_wall : FnScope ["k"] ["k"] (defScope s_wall) := ⟨rfl, rfl, rfl, by decide +kernel, rfl, by decide +kernel, by decide +kernel⟩
abbrev s_is_whole : Stmt := topS 14
theorem sc_is_whole : FnScope ["thing"] ["thing"] (defScope s_is_whole) := ⟨rfl, rfl, rfl, by decide +kernel, rfl, by decide +kernel, by decide +kernel⟩
abbrev s_is_within : Stmt := topS 15
theorem sc_is_within : FnScope ["thing", "low", "high"] ["thing", "low", "high"] (defScope s_is_within) := ⟨rfl, rfl, rfl, by decide +kernel, rfl, by decide +kernel, by decide +kernel⟩
abbrev s_is_tuple_of : Stmt := topS 16
theorem sc_is_tuple_of : FnScope ["thing", "many"] ["thing", "many"] (defScope s_is_tuple_of) := ⟨rfl, rfl, rfl, by decide +kernel, rfl, by decide +kernel, by decide +kernel⟩
abbrev s_are_blocks : Stmt := topS 17
theorem sc_are_blocks : FnScope ["thing", "length"] ["thing"] (defScope s_are_blocks) := ⟨rfl, rfl, rfl, by decide +kernel, rfl, by decide +kernel, by decide +kernel⟩
abbrev s_is_shelf : Stmt := topS 18
theorem sc_is_shelf : FnScope ["thing", "room", "blocks", "total"] ["thing"] (defScope s_is_shelf) := ⟨rfl, rfl, rfl, by decide +kernel, rfl, by decide +kernel, by decide +kernel⟩
abbrev s_need_shelf : Stmt := topS 19
theorem sc_need_shelf : FnScope ["thing"] ["thing"] (defScope s_need_shelf) := ⟨rfl, rfl, rfl, by decide +kernel, rfl, by decide +kernel, by decide +kernel⟩
abbrev s_play_of : Stmt := topS 20
theorem sc_play_of : FnScope ["shelf", "room", "blocks"] ["shelf"] (defScope s_play_of) := ⟨rfl, rfl, rfl, by decide +kernel, rfl, by decide +kernel, by decide +kernel⟩
abbrev s_gap_length : Stmt := topS 21
theorem sc_gap_length : FnScope ["shelf", "gap"] ["shelf", "gap"] (defScope s_gap_length) := ⟨rfl, rfl, rfl, by decide +kernel, rfl, by decide +kernel, by decide +kernel⟩
abbrev s_places_of : Stmt := topS 22
theorem sc_places_of : FnScope ["shelf", "stand", "at", "left"] ["shelf", "stand"] (defScope s_places_of) := ⟨rfl, rfl, rfl, by decide +kernel, rfl, by decide +kernel, by decide +kernel⟩
abbrev s_packed : Stmt := topS 23
theorem sc_packed : FnScope ["shelf", "start", "at"] ["shelf", "start"] (defScope s_packed) := ⟨rfl, rfl, rfl, by decide +kernel, rfl, by decide +kernel, by decide +kernel⟩
abbrev s_leftmost : Stmt := topS 24
theorem sc_leftmost : FnScope ["shelf"] ["shelf"] (defScope s_leftmost) := ⟨rfl, rfl, rfl, by decide +kernel, rfl, by decide +kernel, by decide +kernel⟩
abbrev s_rightmost : Stmt := topS 25
theorem sc_rightmost : FnScope ["shelf"] ["shelf"] (defScope s_rightmost) := ⟨rfl, rfl, rfl, by decide +kernel, rfl, by decide +kernel, by decide +kernel⟩
abbrev s_is_stand : Stmt := topS 26
theorem sc_is_stand : FnScope ["shelf", "thing", "room", "blocks", "edge", "left", "length"] ["shelf", "thing"] (defScope s_is_stand) := ⟨rfl, rfl, rfl, by decide +kernel, rfl, by decide +kernel, by decide +kernel⟩
abbrev s_need_stand : Stmt := topS 27
theorem sc_need_stand : FnScope ["shelf", "thing"] ["shelf", "thing"] (defScope s_need_stand) := ⟨rfl, rfl, rfl, by decide +kernel, rfl, by decide +kernel, by decide +kernel⟩
abbrev s_is_gap : Stmt := topS 28
theorem sc_is_gap : FnScope ["shelf", "side", "thing", "many"] ["shelf", "side", "thing"] (defScope s_is_gap) := ⟨rfl, rfl, rfl, by decide +kernel, rfl, by decide +kernel, by decide +kernel⟩
abbrev s_is_push : Stmt := topS 29
theorem sc_is_push : FnScope ["shelf", "thing", "side", "gap", "place", "length"] ["shelf", "thing"] (defScope s_is_push) := ⟨rfl, rfl, rfl, by decide +kernel, rfl, by decide +kernel, by decide +kernel⟩
abbrev s_is_row : Stmt := topS 30
theorem sc_is_row : FnScope ["shelf", "thing", "push"] ["shelf", "thing"] (defScope s_is_row) := ⟨rfl, rfl, rfl, by decide +kernel, rfl, by decide +kernel, by decide +kernel⟩
abbrev s_need_row : Stmt := topS 31
theorem sc_need_row : FnScope ["shelf", "thing"] ["shelf", "thing"] (defScope s_need_row) := ⟨rfl, rfl, rfl, by decide +kernel, rfl, by decide +kernel, by decide +kernel⟩
abbrev s_pushed_right : Stmt := topS 32
theorem sc_pushed_right : FnScope ["blocks", "stand", "gap", "place", "lefts", "edge", "at"] ["blocks", "stand", "gap", "place"] (defScope s_pushed_right) := ⟨rfl, rfl, rfl, by decide +kernel, rfl, by decide +kernel, by decide +kernel⟩
abbrev s_pushed_left : Stmt := topS 33
theorem sc_pushed_left : FnScope ["blocks", "stand", "gap", "place", "lefts", "edge", "at"] ["blocks", "stand", "gap", "place"] (defScope s_pushed_left) := ⟨rfl, rfl, rfl, by decide +kernel, rfl, by decide +kernel, by decide +kernel⟩
abbrev s_pushed : Stmt := topS 34
theorem sc_pushed : FnScope ["shelf", "stand", "push", "side", "gap", "place"] ["shelf", "stand", "push"] (defScope s_pushed) := ⟨rfl, rfl, rfl, by decide +kernel, rfl, by decide +kernel, by decide +kernel⟩
abbrev s_done : Stmt := topS 35
theorem sc_done : FnScope ["shelf", "stand", "row", "push"] ["shelf", "stand", "row"] (defScope s_done) := ⟨rfl, rfl, rfl, by decide +kernel, rfl, by decide +kernel, by decide +kernel⟩
abbrev s_behind : Stmt := topS 36
theorem sc_behind : FnScope ["shelf", "stand", "row"] ["shelf", "stand", "row"] (defScope s_behind) := ⟨rfl, rfl, rfl, by decide +kernel, rfl, by decide +kernel, by decide +kernel⟩
abbrev s_doing_of : Stmt := topS 38
theorem sc_doing_of : FnScope ["shelf", "row"] ["shelf", "row"] (defScope s_doing_of) := ⟨rfl, rfl, rfl, by decide +kernel, rfl, by decide +kernel, by decide +kernel⟩
abbrev s_is_doing : Stmt := topS 39
theorem sc_is_doing : FnScope ["shelf", "thing", "least", "greatest", "low", "high"] ["shelf", "thing"] (defScope s_is_doing) := ⟨rfl, rfl, rfl, by decide +kernel, rfl, by decide +kernel, by decide +kernel⟩
abbrev s_need_doing : Stmt := topS 40
theorem sc_need_doing : FnScope ["shelf", "thing"] ["shelf", "thing"] (defScope s_need_doing) := ⟨rfl, rfl, rfl, by decide +kernel, rfl, by decide +kernel, by decide +kernel⟩
abbrev s_held_within : Stmt := topS 41
theorem sc_held_within : FnScope ["doing", "stand", "least", "greatest", "low", "left", "high"] ["doing", "stand"] (defScope s_held_within) := ⟨rfl, rfl, rfl, by decide +kernel, rfl, by decide +kernel, by decide +kernel⟩
abbrev s_led : Stmt := topS 42
theorem sc_led : FnScope ["shelf", "doing", "stand"] ["shelf", "doing", "stand"] (defScope s_led) := ⟨rfl, rfl, rfl, by decide +kernel, rfl, by decide +kernel, by decide +kernel⟩
abbrev s_joined : Stmt := topS 43
theorem sc_joined : FnScope ["shelf", "doing", "second", "least", "greatest"] ["shelf", "doing", "second"] (defScope s_joined) := ⟨rfl, rfl, rfl, by decide +kernel, rfl, by decide +kernel, by decide +kernel⟩
abbrev s_row_for : Stmt := topS 44
theorem sc_row_for : FnScope ["shelf", "doing", "least", "greatest", "row", "at", "length"] ["shelf", "doing"] (defScope s_row_for) := ⟨rfl, rfl, rfl, by decide +kernel, rfl, by decide +kernel, by decide +kernel⟩
abbrev s_parted : Stmt := topS 45
theorem sc_parted : FnScope ["shelf", "row", "other", "stand"] ["shelf", "row", "other"] (defScope s_parted) := ⟨rfl, rfl, rfl, by decide +kernel, rfl, by decide +kernel, by decide +kernel⟩
abbrev s_alike : Stmt := topS 46
theorem sc_alike : FnScope ["shelf", "row", "other"] ["shelf", "row", "other"] (defScope s_alike) := ⟨rfl, rfl, rfl, by decide +kernel, rfl, by decide +kernel, by decide +kernel⟩
abbrev s_choices : Stmt := topS 48
theorem sc_choices : FnScope ["total", "many", "ways", "step"] ["total", "many"] (defScope s_choices) := ⟨rfl, rfl, rfl, by decide +kernel, rfl, by decide +kernel, by decide +kernel⟩
abbrev s_stands : Stmt := topS 49
theorem sc_stands : FnScope ["shelf", "many"] ["shelf"] (defScope s_stands) := ⟨rfl, rfl, rfl, by decide +kernel, rfl, by decide +kernel, by decide +kernel⟩
abbrev s_doings : Stmt := topS 50
theorem sc_doings : FnScope ["shelf", "many", "total", "crossing"] ["shelf"] (defScope s_doings) := ⟨rfl, rfl, rfl, by decide +kernel, rfl, by decide +kernel, by decide +kernel⟩
abbrev s_sources : Stmt := topS 51
theorem sc_sources : FnScope ["low", "place", "high", "play", "first", "last"] ["low", "place", "high", "play"] (defScope s_sources) := ⟨rfl, rfl, rfl, by decide +kernel, rfl, by decide +kernel, by decide +kernel⟩
abbrev s_with_next_block : Stmt := topS 52
theorem sc_with_next_block : FnScope ["ways", "first", "last", "told", "total", "place", "many"] ["ways", "first", "last"] (defScope s_with_next_block) := ⟨rfl, rfl, rfl, by decide +kernel, rfl, by decide +kernel, by decide +kernel⟩
abbrev s_leading : Stmt := topS 53
theorem sc_leading : FnScope ["shelf", "doing", "stand", "play", "least", "greatest", "ways", "low", "place", "high", "first", "last"] ["shelf", "doing", "stand"] (defScope s_leading) := ⟨rfl, rfl, rfl, by decide +kernel, rfl, by decide +kernel, by decide +kernel⟩
abbrev s_Band_init : Stmt := inClass (topS 55) 0
theorem sc_Band_init : FnScope ["self", "first", "beyond", "place", "up", "down"] ["self", "first", "beyond", "place", "up", "down"] (defScope s_Band_init) := ⟨rfl, rfl, rfl, by decide +kernel, rfl, by decide +kernel, by decide +kernel⟩
abbrev s_band_from : Stmt := topS 56
theorem sc_band_from : FnScope ["now", "wished", "first", "place", "beyond"] ["now", "wished", "first"] (defScope s_band_from) := ⟨rfl, rfl, rfl, by decide +kernel, rfl, by decide +kernel, by decide +kernel⟩
abbrev s_bands_of : Stmt := topS 57
theorem sc_bands_of : FnScope ["shelf", "stand", "wish", "now", "wished", "bands", "first", "band"] ["shelf", "stand", "wish"] (defScope s_bands_of) := ⟨rfl, rfl, rfl, by decide +kernel, rfl, by decide +kernel, by decide +kernel⟩
abbrev s_raised : Stmt := topS 58
theorem sc_raised : FnScope ["shelf", "gap", "place"] ["shelf", "gap", "place"] (defScope s_raised) := ⟨rfl, rfl, rfl, by decide +kernel, rfl, by decide +kernel, by decide +kernel⟩
abbrev s_lowered : Stmt := topS 59
theorem sc_lowered : FnScope ["shelf", "gap", "place"] ["shelf", "gap", "place"] (defScope s_lowered) := ⟨rfl, rfl, rfl, by decide +kernel, rfl, by decide +kernel, by decide +kernel⟩
abbrev s_row_alone : Stmt := topS 60
theorem sc_row_alone : FnScope ["shelf", "band", "row"] ["shelf", "band"] (defScope s_row_alone) := ⟨rfl, rfl, rfl, by decide +kernel, rfl, by decide +kernel, by decide +kernel⟩
abbrev s_row_served_by_last : Stmt := topS 61
theorem sc_row_served_by_last : FnScope ["shelf", "bands", "row", "band"] ["shelf", "bands"] (defScope s_row_served_by_last) := ⟨rfl, rfl, rfl, by decide +kernel, rfl, by decide +kernel, by decide +kernel⟩
abbrev s_row_served_by_first : Stmt := topS 62
theorem sc_row_served_by_first : FnScope ["shelf", "bands", "server", "row", "band"] ["shelf", "bands"] (defScope s_row_served_by_first) := ⟨rfl, rfl, rfl, by decide +kernel, rfl, by decide +kernel, by decide +kernel⟩
abbrev s_row_together : Stmt := topS 63
theorem sc_row_together : FnScope ["shelf", "bands"] ["shelf", "bands"] (defScope s_row_together) := ⟨rfl, rfl, rfl, by decide +kernel, rfl, by decide +kernel, by decide +kernel⟩
abbrev s_shortest_row : Stmt := topS 64
theorem sc_shortest_row : FnScope ["shelf", "stand", "wish", "bands", "rows", "many", "ways", "ahead"] ["shelf", "stand", "wish"] (defScope s_shortest_row) := ⟨rfl, rfl, rfl, by decide +kernel, rfl, by decide +kernel, by decide +kernel⟩
abbrev s_need_both : Stmt := topS 65
theorem sc_need_both : FnScope ["shelf", "stand", "wish"] ["shelf", "stand", "wish"] (defScope s_need_both) := ⟨rfl, rfl, rfl, by decide +kernel, rfl, by decide +kernel, by decide +kernel⟩
abbrev s_fewest : Stmt := topS 66
theorem sc_fewest : FnScope ["shelf", "stand", "wish"] ["shelf", "stand", "wish"] (defScope s_fewest) := ⟨rfl, rfl, rfl, by decide +kernel, rfl, by decide +kernel, by decide +kernel⟩
abbrev s_pushes_to : Stmt := topS 67
theorem sc_pushes_to : FnScope ["shelf", "stand", "wish"] ["shelf", "stand", "wish"] (defScope s_pushes_to) := ⟨rfl, rfl, rfl, by decide +kernel, rfl, by decide +kernel, by decide +kernel⟩
abbrev s_leads : Stmt := topS 68
theorem sc_leads : FnScope ["shelf", "stand", "wish", "thing"] ["shelf", "stand", "wish", "thing"] (defScope s_leads) := ⟨rfl, rfl, rfl, by decide +kernel, rfl, by decide +kernel, by decide +kernel⟩
abbrev s_copied : Stmt := topS 70
theorem sc_copied : FnScope ["numbers"] ["numbers"] (defScope s_copied) := ⟨rfl, rfl, rfl, by decide +kernel, rfl, by decide +kernel, by decide +kernel⟩
abbrev s_Bench_init : Stmt := inClass (topS 71) 0
theorem sc_Bench_init : FnScope ["self", "shelf", "stand", "room", "blocks"] ["self", "shelf", "stand"] (defScope s_Bench_init) := ⟨rfl, rfl, rfl, by decide +kernel, rfl, by decide +kernel, by decide +kernel⟩
abbrev s_Bench_push : Stmt := inClass (topS 71) 1
theorem sc_Bench_push : FnScope ["self", "thing"] ["self", "thing"] (defScope s_Bench_push) := ⟨rfl, rfl, rfl, by decide +kernel, rfl, by decide +kernel, by decide +kernel⟩
abbrev s_Bench_set_wish : Stmt := inClass (topS 71) 2
theorem sc_Bench_set_wish : FnScope ["self", "wish"] ["self", "wish"] (defScope s_Bench_set_wish) := ⟨rfl, rfl, rfl, by decide +kernel, rfl, by decide +kernel, by decide +kernel⟩
abbrev s_Bench_stand : Stmt := inClass (topS 71) 3
theorem sc_Bench_stand : FnScope ["self"] ["self"] (defScope s_Bench_stand) := ⟨rfl, rfl, rfl, by decide +kernel, rfl, by decide +kernel, by decide +kernel⟩
abbrev s_Bench_doing : Stmt := inClass (topS 71) 4
theorem sc_Bench_doing : FnScope ["self"] ["self"] (defScope s_Bench_doing) := ⟨rfl, rfl, rfl, by decide +kernel, rfl, by decide +kernel, by decide +kernel⟩
abbrev s_Bench_pushes : Stmt := inClass (topS 71) 5
theorem sc_Bench_pushes : FnScope ["self"] ["self"] (defScope s_Bench_pushes) := ⟨rfl, rfl, rfl, by decide +kernel, rfl, by decide +kernel, by decide +kernel⟩
abbrev s_Bench_fewest : Stmt := inClass (topS 71) 6
theorem sc_Bench_fewest : FnScope ["self"] ["self"] (defScope s_Bench_fewest) := ⟨rfl, rfl, rfl, by decide +kernel, rfl, by decide +kernel, by decide +kernel⟩
abbrev s_Bench_len : Stmt := inClass (topS 71) 7
theorem sc_Bench_len : FnScope ["self"] ["self"] (defScope s_Bench_len) := ⟨rfl, rfl, rfl, by decide +kernel, rfl, by decide +kernel, by decide +kernel⟩
abbrev s_Bench_eq : Stmt := inClass (topS 71) 8
theorem sc_Bench_eq : FnScope ["self", "other"] ["self", "other"] (defScope s_Bench_eq) := ⟨rfl, rfl, rfl, by decide +kernel, rfl, by decide +kernel, by decide +kernel⟩
abbrev s_law_deck : Stmt := topS 73
theorem sc_law_deck : FnScope ["cell", "turn"] ["cell", "turn"] (defScope s_law_deck) := ⟨rfl, rfl, rfl, by decide +kernel, rfl, by decide +kernel, by decide +kernel⟩
abbrev s_law_pick : Stmt := topS 74
theorem sc_law_pick : FnScope ["deck", "size", "found", "number"] ["deck", "size"] (defScope s_law_pick) := ⟨rfl, rfl, rfl, by decide +kernel, rfl, by decide +kernel, by decide +kernel⟩
abbrev s_law_one : Stmt := topS 75
theorem sc_law_one : FnScope ["deck", "some"] ["deck", "some"] (defScope s_law_one) := ⟨rfl, rfl, rfl, by decide +kernel, rfl, by decide +kernel, by decide +kernel⟩
abbrev s_law_kin : Stmt := topS 76
theorem sc_law_kin : FnScope ["e", "kinds_met", "names", "name", "good"] ["e"] (defScope s_law_kin) := ⟨rfl, rfl, rfl, by decide +kernel, rfl, by decide +kernel, by decide +kernel⟩
abbrev s_law_try : Stmt := topS 77
theorem sc_law_try : FnScope ["door", "found", "e"] ["door"] (defScope s_law_try) := ⟨rfl, rfl, rfl, by decide +kernel, rfl, by decide +kernel, by decide +kernel⟩
abbrev s_law_shelf : Stmt := topS 78
theorem sc_law_shelf : FnScope ["deck", "at_most", "play", "blocks", "k"] ["deck", "at_most", "play"] (defScope s_law_shelf) := ⟨rfl, rfl, rfl, by decide +kernel, rfl, by decide +kernel, by decide +kernel⟩
abbrev s_law_play : Stmt := topS 79
theorem sc_law_play : FnScope ["shelf"] ["shelf"] (defScope s_law_play) := ⟨rfl, rfl, rfl, by decide +kernel, rfl, by decide +kernel, by decide +kernel⟩
abbrev s_law_stand_of : Stmt := topS 80
theorem sc_law_stand_of : FnScope ["shelf", "places", "found", "ahead", "place", "long"] ["shelf", "places"] (defScope s_law_stand_of) := ⟨rfl, rfl, rfl, by decide +kernel, rfl, by decide +kernel, by decide +kernel⟩
abbrev s_law_stand : Stmt := topS 81
theorem sc_law_stand : FnScope ["deck", "shelf", "places", "long"] ["deck", "shelf"] (defScope s_law_stand) := ⟨rfl, rfl, rfl, by decide +kernel, rfl, by decide +kernel, by decide +kernel⟩
abbrev s_law_push : Stmt := topS 82
theorem sc_law_push : FnScope ["deck", "shelf", "side", "gap"] ["deck", "shelf"] (defScope s_law_push) := ⟨rfl, rfl, rfl, by decide +kernel, rfl, by decide +kernel, by decide +kernel⟩
abbrev s_law_by_stand : Stmt := topS 83
theorem sc_law_by_stand : FnScope ["shelf", "stand", "other", "found"] ["shelf", "stand", "other"] (defScope s_law_by_stand) := ⟨rfl, rfl, rfl, by decide +kernel, rfl, by decide +kernel, by decide +kernel⟩
abbrev s_law_by_row : Stmt := topS 84
theorem sc_law_by_row : FnScope ["shelf", "row", "other", "found"] ["shelf", "row", "other"] (defScope s_law_by_row) := ⟨rfl, rfl, rfl, by decide +kernel, rfl, by decide +kernel, by decide +kernel⟩
abbrev s_law_by_doing : Stmt := topS 85
theorem sc_law_by_doing : FnScope ["shelf", "doing", "other", "found"] ["shelf", "doing", "other"] (defScope s_law_by_doing) := ⟨rfl, rfl, rfl, by decide +kernel, rfl, by decide +kernel, by decide +kernel⟩
abbrev s_law_by_shelf : Stmt := topS 86
theorem sc_law_by_shelf : FnScope ["shelf", "found"] ["shelf"] (defScope s_law_by_shelf) := ⟨rfl, rfl, rfl, by decide +kernel, rfl, by decide +kernel, by decide +kernel⟩
abbrev s_law_all_told : Stmt := topS 87
theorem sc_law_all_told : FnScope ["doors", "word", "door"] ["doors", "word"] (defScope s_law_all_told) := ⟨rfl, rfl, rfl, by decide +kernel, rfl, by decide +kernel, by decide +kernel⟩
abbrev s_law : Stmt := topS 88
theorem sc_law : FnScope ["script", "cell", "deck", "less", "odd", "doors", "bads", "one", "bad", "good", "shelf", "stand"] ["script"] (defScope s_law) := ⟨rfl, rfl, rfl, by decide +kernel, rfl, by decide +kernel, by decide +kernel⟩
/-- what the top has left -/
structure Tx (K : PySem.W.Frag) (mg : Str → Option Value) where
  {f_wall : Addr}
  {fd_wall : FuncData}
  F_wall : Fun K "_wall" "_wall" s_wall f_wall fd_wall
  g_wall : mg "_wall" = some (.ref f_wall)
  {f_is_whole : Addr}
  {fd_is_whole : FuncData}
  F_is_whole : Fun K "is_whole" "is_whole" s_is_whole f_is_whole fd_is_whole
  g_is_whole : mg "is_whole" = some (.ref f_is_whole)
  {f_is_within : Addr}
  {fd_is_within : FuncData}
  F_is_within : Fun K "is_within" "is_within" s_is_within f_is_within fd_is_within
  g_is_within : mg "is_within" = some (.ref f_is_within)
  {f_is_tuple_of : Addr}
  {fd_is_tuple_of : FuncData}
  F_is_tuple_of : Fun K "is_tuple_of" "is_tuple_of" s_is_tuple_of f_is_tuple_of fd_is_tuple_of
  g_is_tuple_of : mg "is_tuple_of" = some (.ref f_is_tuple_of)
  {f_are_blocks : Addr}
  {fd_are_blocks : FuncData}
  F_are_blocks : Fun K "are_blocks" "are_blocks" s_are_blocks f_are_blocks fd_are_blocks
  g_are_blocks : mg "are_blocks" = some (.ref f_are_blocks)
  {f_is_shelf : Addr}
  {fd_is_shelf : FuncData}
  F_is_shelf : Fun K "is_shelf" "is_shelf" s_is_shelf f_is_shelf fd_is_shelf
  g_is_shelf : mg "is_shelf" = some (.ref f_is_shelf)
  {f_need_shelf : Addr}
  {fd_need_shelf : FuncData}
  F_need_shelf : Fun K "need_shelf" "need_shelf" s_need_shelf f_need_shelf fd_need_shelf
  g_need_shelf : mg "need_shelf" = some (.ref f_need_shelf)
  {f_play_of : Addr}
  {fd_play_of : FuncData}
  F_play_of : Fun K "play_of" "play_of" s_play_of f_play_of fd_play_of
  g_play_of : mg "play_of" = some (.ref f_play_of)
  {f_gap_length : Addr}
  {fd_gap_length : FuncData}
  F_gap_length : Fun K "gap_length" "gap_length" s_gap_length f_gap_length fd_gap_length
  g_gap_length : mg "gap_length" = some (.ref f_gap_length)
  {f_places_of : Addr}
  {fd_places_of : FuncData}
  F_places_of : Fun K "places_of" "places_of" s_places_of f_places_of fd_places_of
  g_places_of : mg "places_of" = some (.ref f_places_of)
  {f_packed : Addr}
  {fd_packed : FuncData}
  F_packed : Fun K "packed" "packed" s_packed f_packed fd_packed
  g_packed : mg "packed" = some (.ref f_packed)
  {f_leftmost : Addr}
  {fd_leftmost : FuncData}
  F_leftmost : Fun K "leftmost" "leftmost" s_leftmost f_leftmost fd_leftmost
  g_leftmost : mg "leftmost" = some (.ref f_leftmost)
  {f_rightmost : Addr}
  {fd_rightmost : FuncData}
  F_rightmost : Fun K "rightmost" "rightmost" s_rightmost f_rightmost fd_rightmost
  g_rightmost : mg "rightmost" = some (.ref f_rightmost)
  {f_is_stand : Addr}
  {fd_is_stand : FuncData}
  F_is_stand : Fun K "is_stand" "is_stand" s_is_stand f_is_stand fd_is_stand
  g_is_stand : mg "is_stand" = some (.ref f_is_stand)
  {f_need_stand : Addr}
  {fd_need_stand : FuncData}
  F_need_stand : Fun K "need_stand" "need_stand" s_need_stand f_need_stand fd_need_stand
  g_need_stand : mg "need_stand" = some (.ref f_need_stand)
  {f_is_gap : Addr}
  {fd_is_gap : FuncData}
  F_is_gap : Fun K "is_gap" "is_gap" s_is_gap f_is_gap fd_is_gap
  g_is_gap : mg "is_gap" = some (.ref f_is_gap)
  {f_is_push : Addr}
  {fd_is_push : FuncData}
  F_is_push : Fun K "is_push" "is_push" s_is_push f_is_push fd_is_push
  g_is_push : mg "is_push" = some (.ref f_is_push)
  {f_is_row : Addr}
  {fd_is_row : FuncData}
  F_is_row : Fun K "is_row" "is_row" s_is_row f_is_row fd_is_row
  g_is_row : mg "is_row" = some (.ref f_is_row)
  {f_need_row : Addr}
  {fd_need_row : FuncData}
  F_need_row : Fun K "need_row" "need_row" s_need_row f_need_row fd_need_row
  g_need_row : mg "need_row" = some (.ref f_need_row)
  {f_pushed_right : Addr}
  {fd_pushed_right : FuncData}
  F_pushed_right : Fun K "pushed_right" "pushed_right" s_pushed_right f_pushed_right fd_pushed_right
  g_pushed_right : mg "pushed_right" = some (.ref f_pushed_right)
  {f_pushed_left : Addr}
  {fd_pushed_left : FuncData}
  F_pushed_left : Fun K "pushed_left" "pushed_left" s_pushed_left f_pushed_left fd_pushed_left
  g_pushed_left : mg "pushed_left" = some (.ref f_pushed_left)
  {f_pushed : Addr}
  {fd_pushed : FuncData}
  F_pushed : Fun K "pushed" "pushed" s_pushed f_pushed fd_pushed
  g_pushed : mg "pushed" = some (.ref f_pushed)
  {f_done : Addr}
  {fd_done : FuncData}
  F_done : Fun K "done" "done" s_done f_done fd_done
  g_done : mg "done" = some (.ref f_done)
  {f_behind : Addr}
  {fd_behind : FuncData}
  F_behind : Fun K "behind" "behind" s_behind f_behind fd_behind
  g_behind : mg "behind" = some (.ref f_behind)
  {f_doing_of : Addr}
  {fd_doing_of : FuncData}
  F_doing_of : Fun K "doing_of" "doing_of" s_doing_of f_doing_of fd_doing_of
  g_doing_of : mg "doing_of" = some (.ref f_doing_of)
  {f_is_doing : Addr}
  {fd_is_doing : FuncData}
  F_is_doing : Fun K "is_doing" "is_doing" s_is_doing f_is_doing fd_is_doing
  g_is_doing : mg "is_doing" = some (.ref f_is_doing)
  {f_need_doing : Addr}
  {fd_need_doing : FuncData}
  F_need_doing : Fun K "need_doing" "need_doing" s_need_doing f_need_doing fd_need_doing
  g_need_doing : mg "need_doing" = some (.ref f_need_doing)
  {f_held_within : Addr}
  {fd_held_within : FuncData}
  F_held_within : Fun K "held_within" "held_within" s_held_within f_held_within fd_held_within
  g_held_within : mg "held_within" = some (.ref f_held_within)
  {f_led : Addr}
  {fd_led : FuncData}
  F_led : Fun K "led" "led" s_led f_led fd_led
  g_led : mg "led" = some (.ref f_led)
  {f_joined : Addr}
  {fd_joined : FuncData}
  F_joined : Fun K "joined" "joined" s_joined f_joined fd_joined
  g_joined : mg "joined" = some (.ref f_joined)
  {f_row_for : Addr}
  {fd_row_for : FuncData}
  F_row_for : Fun K "row_for" "row_for" s_row_for f_row_for fd_row_for
  g_row_for : mg "row_for" = some (.ref f_row_for)
  {f_parted : Addr}
  {fd_parted : FuncData}
  F_parted : Fun K "parted" "parted" s_parted f_parted fd_parted
  g_parted : mg "parted" = some (.ref f_parted)
  {f_alike : Addr}
  {fd_alike : FuncData}
  F_alike : Fun K "alike" "alike" s_alike f_alike fd_alike
  g_alike : mg "alike" = some (.ref f_alike)
  {f_choices : Addr}
  {fd_choices : FuncData}
  F_choices : Fun K "choices" "choices" s_choices f_choices fd_choices
  g_choices : mg "choices" = some (.ref f_choices)
  {f_stands : Addr}
  {fd_stands : FuncData}
  F_stands : Fun K "stands" "stands" s_stands f_stands fd_stands
  g_stands : mg "stands" = some (.ref f_stands)
  {f_doings : Addr}
  {fd_doings : FuncData}
  F_doings : Fun K "doings" "doings" s_doings f_doings fd_doings
  g_doings : mg "doings" = some (.ref f_doings)
  {f_sources : Addr}
  {fd_sources : FuncData}
  F_sources : Fun K "sources" "sources" s_sources f_sources fd_sources
  g_sources : mg "sources" = some (.ref f_sources)
  {f_with_next_block : Addr}
  {fd_with_next_block : FuncData}
  F_with_next_block : Fun K "with_next_block" "with_next_block" s_with_next_block f_with_next_block fd_with_next_block
  g_with_next_block : mg "with_next_block" = some (.ref f_with_next_block)
  {f_leading : Addr}
  {fd_leading : FuncData}
  F_leading : Fun K "leading" "leading" s_leading f_leading fd_leading
  g_leading : mg "leading" = some (.ref f_leading)
  {f_Band_init : Addr}
  {fd_Band_init : FuncData}
  F_Band_init : Fun K "__init__" "Band.__init__" s_Band_init f_Band_init fd_Band_init
  {f_band_from : Addr}
  {fd_band_from : FuncData}
  F_band_from : Fun K "band_from" "band_from" s_band_from f_band_from fd_band_from
  g_band_from : mg "band_from" = some (.ref f_band_from)
  {f_bands_of : Addr}
  {fd_bands_of : FuncData}
  F_bands_of : Fun K "bands_of" "bands_of" s_bands_of f_bands_of fd_bands_of
  g_bands_of : mg "bands_of" = some (.ref f_bands_of)
  {f_raised : Addr}
  {fd_raised : FuncData}
  F_raised : Fun K "raised" "raised" s_raised f_raised fd_raised
  g_raised : mg "raised" = some (.ref f_raised)
  {f_lowered : Addr}
  {fd_lowered : FuncData}
  F_lowered : Fun K "lowered" "lowered" s_lowered f_lowered fd_lowered
  g_lowered : mg "lowered" = some (.ref f_lowered)
  {f_row_alone : Addr}
  {fd_row_alone : FuncData}
  F_row_alone : Fun K "row_alone" "row_alone" s_row_alone f_row_alone fd_row_alone
  g_row_alone : mg "row_alone" = some (.ref f_row_alone)
  {f_row_served_by_last : Addr}
  {fd_row_served_by_last : FuncData}
  F_row_served_by_last : Fun K "row_served_by_last" "row_served_by_last" s_row_served_by_last f_row_served_by_last fd_row_served_by_last
  g_row_served_by_last : mg "row_served_by_last" = some (.ref f_row_served_by_last)
  {f_row_served_by_first : Addr}
  {fd_row_served_by_first : FuncData}
  F_row_served_by_first : Fun K "row_served_by_first" "row_served_by_first" s_row_served_by_first f_row_served_by_first fd_row_served_by_first
  g_row_served_by_first : mg "row_served_by_first" = some (.ref f_row_served_by_first)
  {f_row_together : Addr}
  {fd_row_together : FuncData}
  F_row_together : Fun K "row_together" "row_together" s_row_together f_row_together fd_row_together
  g_row_together : mg "row_together" = some (.ref f_row_together)
  {f_shortest_row : Addr}
  {fd_shortest_row : FuncData}
  F_shortest_row : Fun K "shortest_row" "shortest_row" s_shortest_row f_shortest_row fd_shortest_row
  g_shortest_row : mg "shortest_row" = some (.ref f_shortest_row)
  {f_need_both : Addr}
  {fd_need_both : FuncData}
  F_need_both : Fun K "need_both" "need_both" s_need_both f_need_both fd_need_both
  g_need_both : mg "need_both" = some (.ref f_need_both)
  {f_fewest : Addr}
  {fd_fewest : FuncData}
  F_fewest : Fun K "fewest" "fewest" s_fewest f_fewest fd_fewest
  g_fewest : mg "fewest" = some (.ref f_fewest)
  {f_pushes_to : Addr}
  {fd_pushes_to : FuncData}
  F_pushes_to : Fun K "pushes_to" "pushes_to" s_pushes_to f_pushes_to fd_pushes_to
  g_pushes_to : mg "pushes_to" = some (.ref f_pushes_to)
  {f_leads : Addr}
  {fd_leads : FuncData}
  F_leads : Fun K "leads" "leads" s_leads f_leads fd_leads
  g_leads : mg "leads" = some (.ref f_leads)
  {f_copied : Addr}
  {fd_copied : FuncData}
  F_copied : Fun K "copied" "copied" s_copied f_copied fd_copied
  g_copied : mg "copied" = some (.ref f_copied)
  {f_Bench_init : Addr}
  {fd_Bench_init : FuncData}
  F_Bench_init : Fun K "__init__" "Bench.__init__" s_Bench_init f_Bench_init fd_Bench_init
  {f_Bench_push : Addr}
  {fd_Bench_push : FuncData}
  F_Bench_push : Fun K "push" "Bench.push" s_Bench_push f_Bench_push fd_Bench_push
  {f_Bench_set_wish : Addr}
  {fd_Bench_set_wish : FuncData}
  F_Bench_set_wish : Fun K "set_wish" "Bench.set_wish" s_Bench_set_wish f_Bench_set_wish fd_Bench_set_wish
  {f_Bench_stand : Addr}
  {fd_Bench_stand : FuncData}
  F_Bench_stand : Fun K "stand" "Bench.stand" s_Bench_stand f_Bench_stand fd_Bench_stand
  {f_Bench_doing : Addr}
  {fd_Bench_doing : FuncData}
  F_Bench_doing : Fun K "doing" "Bench.doing" s_Bench_doing f_Bench_doing fd_Bench_doing
  {f_Bench_pushes : Addr}
  {fd_Bench_pushes : FuncData}
  F_Bench_pushes : Fun K "pushes" "Bench.pushes" s_Bench_pushes f_Bench_pushes fd_Bench_pushes
  {f_Bench_fewest : Addr}
  {fd_Bench_fewest : FuncData}
  F_Bench_fewest : Fun K "fewest" "Bench.fewest" s_Bench_fewest f_Bench_fewest fd_Bench_fewest
  {f_Bench_len : Addr}
  {fd_Bench_len : FuncData}
  F_Bench_len : Fun K "__len__" "Bench.__len__" s_Bench_len f_Bench_len fd_Bench_len
  {f_Bench_eq : Addr}
  {fd_Bench_eq : FuncData}
  F_Bench_eq : Fun K "__eq__" "Bench.__eq__" s_Bench_eq f_Bench_eq fd_Bench_eq
  {f_law_deck : Addr}
  {fd_law_deck : FuncData}
  F_law_deck : Fun K "_law_deck" "_law_deck" s_law_deck f_law_deck fd_law_deck
  g_law_deck : mg "_law_deck" = some (.ref f_law_deck)
  {f_law_pick : Addr}
  {fd_law_pick : FuncData}
  F_law_pick : Fun K "_law_pick" "_law_pick" s_law_pick f_law_pick fd_law_pick
  g_law_pick : mg "_law_pick" = some (.ref f_law_pick)
  {f_law_one : Addr}
  {fd_law_one : FuncData}
  F_law_one : Fun K "_law_one" "_law_one" s_law_one f_law_one fd_law_one
  g_law_one : mg "_law_one" = some (.ref f_law_one)
  {f_law_kin : Addr}
  {fd_law_kin : FuncData}
  F_law_kin : Fun K "_law_kin" "_law_kin" s_law_kin f_law_kin fd_law_kin
  g_law_kin : mg "_law_kin" = some (.ref f_law_kin)
  {f_law_try : Addr}
  {fd_law_try : FuncData}
  F_law_try : Fun K "_law_try" "_law_try" s_law_try f_law_try fd_law_try
  g_law_try : mg "_law_try" = some (.ref f_law_try)
  {f_law_shelf : Addr}
  {fd_law_shelf : FuncData}
  F_law_shelf : Fun K "_law_shelf" "_law_shelf" s_law_shelf f_law_shelf fd_law_shelf
  g_law_shelf : mg "_law_shelf" = some (.ref f_law_shelf)
  {f_law_play : Addr}
  {fd_law_play : FuncData}
  F_law_play : Fun K "_law_play" "_law_play" s_law_play f_law_play fd_law_play
  g_law_play : mg "_law_play" = some (.ref f_law_play)
  {f_law_stand_of : Addr}
  {fd_law_stand_of : FuncData}
  F_law_stand_of : Fun K "_law_stand_of" "_law_stand_of" s_law_stand_of f_law_stand_of fd_law_stand_of
  g_law_stand_of : mg "_law_stand_of" = some (.ref f_law_stand_of)
  {f_law_stand : Addr}
  {fd_law_stand : FuncData}
  F_law_stand : Fun K "_law_stand" "_law_stand" s_law_stand f_law_stand fd_law_stand
  g_law_stand : mg "_law_stand" = some (.ref f_law_stand)
  {f_law_push : Addr}
  {fd_law_push : FuncData}
  F_law_push : Fun K "_law_push" "_law_push" s_law_push f_law_push fd_law_push
  g_law_push : mg "_law_push" = some (.ref f_law_push)
  {f_law_by_stand : Addr}
  {fd_law_by_stand : FuncData}
  F_law_by_stand : Fun K "_law_by_stand" "_law_by_stand" s_law_by_stand f_law_by_stand fd_law_by_stand
  g_law_by_stand : mg "_law_by_stand" = some (.ref f_law_by_stand)
  {f_law_by_row : Addr}
  {fd_law_by_row : FuncData}
  F_law_by_row : Fun K "_law_by_row" "_law_by_row" s_law_by_row f_law_by_row fd_law_by_row
  g_law_by_row : mg "_law_by_row" = some (.ref f_law_by_row)
  {f_law_by_doing : Addr}
  {fd_law_by_doing : FuncData}
  F_law_by_doing : Fun K "_law_by_doing" "_law_by_doing" s_law_by_doing f_law_by_doing fd_law_by_doing
  g_law_by_doing : mg "_law_by_doing" = some (.ref f_law_by_doing)
  {f_law_by_shelf : Addr}
  {fd_law_by_shelf : FuncData}
  F_law_by_shelf : Fun K "_law_by_shelf" "_law_by_shelf" s_law_by_shelf f_law_by_shelf fd_law_by_shelf
  g_law_by_shelf : mg "_law_by_shelf" = some (.ref f_law_by_shelf)
  {f_law_all_told : Addr}
  {fd_law_all_told : FuncData}
  F_law_all_told : Fun K "_law_all_told" "_law_all_told" s_law_all_told f_law_all_told fd_law_all_told
  g_law_all_told : mg "_law_all_told" = some (.ref f_law_all_told)
  {C_Band : Addr}
  cl_Band : Cls K C_Band
  g_Band : mg "Band" = some (.ref C_Band)
  mk_Band : Mk K C_Band f_Band_init
  na_Band_first : NoAttr K C_Band "first"
  na_Band_beyond : NoAttr K C_Band "beyond"
  na_Band_place : NoAttr K C_Band "place"
  na_Band_up : NoAttr K C_Band "up"
  na_Band_down : NoAttr K C_Band "down"
  {C_Bench : Addr}
  cl_Bench : Cls K C_Bench
  g_Bench : mg "Bench" = some (.ref C_Bench)
  mk_Bench : Mk K C_Bench f_Bench_init
  me_Bench_push : Meth K C_Bench "push" f_Bench_push
  me_Bench_set_wish : Meth K C_Bench "set_wish" f_Bench_set_wish
  me_Bench_stand : Meth K C_Bench "stand" f_Bench_stand
  me_Bench_doing : Meth K C_Bench "doing" f_Bench_doing
  me_Bench_pushes : Meth K C_Bench "pushes" f_Bench_pushes
  me_Bench_fewest : Meth K C_Bench "fewest" f_Bench_fewest
  me_Bench_len : Meth K C_Bench "__len__" f_Bench_len
  me_Bench_eq : Meth K C_Bench "__eq__" f_Bench_eq
  na_Bench_shelf : NoAttr K C_Bench "shelf"
  na_Bench_now : NoAttr K C_Bench "now"
  na_Bench_least : NoAttr K C_Bench "least"
  na_Bench_greatest : NoAttr K C_Bench "greatest"
  na_Bench_many : NoAttr K C_Bench "many"
  na_Bench_wish : NoAttr K C_Bench "wish"
  n_ValueError : mg "ValueError" = none
  n_all : mg "all" = none
  n_bool : mg "bool" = none
  n_enumerate : mg "enumerate" = none
  n_int : mg "int" = none
  n_isinstance : mg "isinstance" = none
  n_len : mg "len" = none
  n_list : mg "list" = none
  n_max : mg "max" = none
  n_min : mg "min" = none
  n_range : mg "range" = none
  n_reversed : mg "reversed" = none
  n_sorted : mg "sorted" = none
  n_sum : mg "sum" = none
  n_tuple : mg "tuple" = none
  n_zip : mg "zip" = none
  {cu_MOST_BLOCKS : Value}
  c_MOST_BLOCKS : RelV (.int 8) cu_MOST_BLOCKS ∧ mg "MOST_BLOCKS" = some cu_MOST_BLOCKS
  {cu_MOST_LENGTH : Value}
  c_MOST_LENGTH : RelV (.int 50) cu_MOST_LENGTH ∧ mg "MOST_LENGTH" = some cu_MOST_LENGTH
  {cu_MOST_PLAY : Value}
  c_MOST_PLAY : RelV (.int 400) cu_MOST_PLAY ∧ mg "MOST_PLAY" = some cu_MOST_PLAY
  {cu_MOST_PUSHES : Value}
  c_MOST_PUSHES : RelV (.int 200) cu_MOST_PUSHES ∧ mg "MOST_PUSHES" = some cu_MOST_PUSHES
variable {P : Program} {w : World} {K : PySem.W.Frag} {mg : Str → Option Value} {base : Heap}
theorem Tx.b_wall (T : Tx K mg) : Binds K T.fd_wall ["k"] [] := T.F_wall.binds fun _ _ _ _ _ _ us hl => match us, hl with | [_], _ => rfl
theorem Tx.b_is_whole (T : Tx K mg) : Binds K T.fd_is_whole ["thing"] [] := T.F_is_whole.binds fun _ _ _ _ _ _ us hl => match us, hl with | [_], _ => rfl
theorem Tx.b_is_within (T : Tx K mg) : Binds K T.fd_is_within ["thing", "low", "high"] [] := T.F_is_within.binds fun _ _ _ _ _ _ us hl => match us, hl with | [_, _, _], _ => rfl
theorem Tx.b_is_tuple_of (T : Tx K mg) : Binds K T.fd_is_tuple_of ["thing", "many"] [] := T.F_is_tuple_of.binds fun _ _ _ _ _ _ us hl => match us, hl with | [_, _], _ => rfl
theorem Tx.b_are_blocks (T : Tx K mg) : Binds K T.fd_are_blocks ["thing"] [] := T.F_are_blocks.binds fun _ _ _ _ _ _ us hl => match us, hl with | [_], _ => rfl
theorem Tx.b_is_shelf (T : Tx K mg) : Binds K T.fd_is_shelf ["thing"] [] := T.F_is_shelf.binds fun _ _ _ _ _ _ us hl => match us, hl with | [_], _ => rfl
theorem Tx.b_need_shelf (T : Tx K mg) : Binds K T.fd_need_shelf ["thing"] [] := T.F_need_shelf.binds fun _ _ _ _ _ _ us hl => match us, hl with | [_], _ => rfl
theorem Tx.b_play_of (T : Tx K mg) : Binds K T.fd_play_of ["shelf"] [] := T.F_play_of.binds fun _ _ _ _ _ _ us hl => match us, hl with | [_], _ => rfl
theorem Tx.b_gap_length (T : Tx K mg) : Binds K T.fd_gap_length ["shelf", "gap"] [] := T.F_gap_length.binds fun _ _ _ _ _ _ us hl => match us, hl with | [_, _], _ => rfl
theorem Tx.b_places_of (T : Tx K mg) : Binds K T.fd_places_of ["shelf", "stand"] [] := T.F_places_of.binds fun _ _ _ _ _ _ us hl => match us, hl with | [_, _], _ => rfl
theorem Tx.b_packed (T : Tx K mg) : Binds K T.fd_packed ["shelf", "start"] [] := T.F_packed.binds fun _ _ _ _ _ _ us hl => match us, hl with | [_, _], _ => rfl
theorem Tx.b_leftmost (T : Tx K mg) : Binds K T.fd_leftmost ["shelf"] [] := T.F_leftmost.binds fun _ _ _ _ _ _ us hl => match us, hl with | [_], _ => rfl
theorem Tx.b_rightmost (T : Tx K mg) : Binds K T.fd_rightmost ["shelf"] [] := T.F_rightmost.binds fun _ _ _ _ _ _ us hl => match us, hl with | [_], _ => rfl
theorem Tx.b_is_stand (T : Tx K mg) : Binds K T.fd_is_stand ["shelf", "thing"] [] := T.F_is_stand.binds fun _ _ _ _ _ _ us hl => match us, hl with | [_, _], _ => rfl
theorem Tx.b_need_stand (T : Tx K mg) : Binds K T.fd_need_stand ["shelf", "thing"] [] := T.F_need_stand.binds fun _ _ _ _ _ _ us hl => match us, hl with | [_, _], _ => rfl
theorem Tx.b_is_gap (T : Tx K mg) : Binds K T.fd_is_gap ["shelf", "side", "thing"] [] := T.F_is_gap.binds fun _ _ _ _ _ _ us hl => match us, hl with | [_, _, _], _ => rfl
theorem Tx.b_is_push (T : Tx K mg) : Binds K T.fd_is_push ["shelf", "thing"] [] := T.F_is_push.binds fun _ _ _ _ _ _ us hl => match us, hl with | [_, _], _ => rfl
theorem Tx.b_is_row (T : Tx K mg) : Binds K T.fd_is_row ["shelf", "thing"] [] := T.F_is_row.binds fun _ _ _ _ _ _ us hl => match us, hl with | [_, _], _ => rfl
theorem Tx.b_need_row (T : Tx K mg) : Binds K T.fd_need_row ["shelf", "thing"] [] := T.F_need_row.binds fun _ _ _ _ _ _ us hl => match us, hl with | [_, _], _ => rfl
theorem Tx.b_pushed_right (T : Tx K mg) : Binds K T.fd_pushed_right ["blocks", "stand", "gap", "place"] [] := T.F_pushed_right.binds fun _ _ _ _ _ _ us hl => match us, hl with | [_, _, _, _], _ => rfl
theorem Tx.b_pushed_left (T : Tx K mg) : Binds K T.fd_pushed_left ["blocks", "stand", "gap", "place"] [] := T.F_pushed_left.binds fun _ _ _ _ _ _ us hl => match us, hl with | [_, _, _, _], _ => rfl
theorem Tx.b_pushed (T : Tx K mg) : Binds K T.fd_pushed ["shelf", "stand", "push"] [] := T.F_pushed.binds fun _ _ _ _ _ _ us hl => match us, hl with | [_, _, _], _ => rfl
theorem Tx.b_done (T : Tx K mg) : Binds K T.fd_done ["shelf", "stand", "row"] [] := T.F_done.binds fun _ _ _ _ _ _ us hl => match us, hl with | [_, _, _], _ => rfl
theorem Tx.b_behind (T : Tx K mg) : Binds K T.fd_behind ["shelf", "stand", "row"] [] := T.F_behind.binds fun _ _ _ _ _ _ us hl => match us, hl with | [_, _, _], _ => rfl
theorem Tx.b_doing_of (T : Tx K mg) : Binds K T.fd_doing_of ["shelf", "row"] [] := T.F_doing_of.binds fun _ _ _ _ _ _ us hl => match us, hl with | [_, _], _ => rfl
theorem Tx.b_is_doing (T : Tx K mg) : Binds K T.fd_is_doing ["shelf", "thing"] [] := T.F_is_doing.binds fun _ _ _ _ _ _ us hl => match us, hl with | [_, _], _ => rfl
theorem Tx.b_need_doing (T : Tx K mg) : Binds K T.fd_need_doing ["shelf", "thing"] [] := T.F_need_doing.binds fun _ _ _ _ _ _ us hl => match us, hl with | [_, _], _ => rfl
theorem Tx.b_held_within (T : Tx K mg) : Binds K T.fd_held_within ["doing", "stand"] [] := T.F_held_within.binds fun _ _ _ _ _ _ us hl => match us, hl with | [_, _], _ => rfl
theorem Tx.b_led (T : Tx K mg) : Binds K T.fd_led ["shelf", "doing", "stand"] [] := T.F_led.binds fun _ _ _ _ _ _ us hl => match us, hl with | [_, _, _], _ => rfl
theorem Tx.b_joined (T : Tx K mg) : Binds K T.fd_joined ["shelf", "doing", "second"] [] := T.F_joined.binds fun _ _ _ _ _ _ us hl => match us, hl with | [_, _, _], _ => rfl
theorem Tx.b_row_for (T : Tx K mg) : Binds K T.fd_row_for ["shelf", "doing"] [] := T.F_row_for.binds fun _ _ _ _ _ _ us hl => match us, hl with | [_, _], _ => rfl
theorem Tx.b_parted (T : Tx K mg) : Binds K T.fd_parted ["shelf", "row", "other"] [] := T.F_parted.binds fun _ _ _ _ _ _ us hl => match us, hl with | [_, _, _], _ => rfl
theorem Tx.b_alike (T : Tx K mg) : Binds K T.fd_alike ["shelf", "row", "other"] [] := T.F_alike.binds fun _ _ _ _ _ _ us hl => match us, hl with | [_, _, _], _ => rfl
theorem Tx.b_choices (T : Tx K mg) : Binds K T.fd_choices ["total", "many"] [] := T.F_choices.binds fun _ _ _ _ _ _ us hl => match us, hl with | [_, _], _ => rfl
theorem Tx.b_stands (T : Tx K mg) : Binds K T.fd_stands ["shelf"] [] := T.F_stands.binds fun _ _ _ _ _ _ us hl => match us, hl with | [_], _ => rfl
theorem Tx.b_doings (T : Tx K mg) : Binds K T.fd_doings ["shelf"] [] := T.F_doings.binds fun _ _ _ _ _ _ us hl => match us, hl with | [_], _ => rfl
theorem Tx.b_sources (T : Tx K mg) : Binds K T.fd_sources ["low", "place", "high", "play"] [] := T.F_sources.binds fun _ _ _ _ _ _ us hl => match us, hl with | [_, _, _, _], _ => rfl
theorem Tx.b_with_next_block (T : Tx K mg) : Binds K T.fd_with_next_block ["ways", "first", "last"] [] := T.F_with_next_block.binds fun _ _ _ _ _ _ us hl => match us, hl with | [_, _, _], _ => rfl
theorem Tx.b_leading (T : Tx K mg) : Binds K T.fd_leading ["shelf", "doing", "stand"] [] := T.F_leading.binds fun _ _ _ _ _ _ us hl => match us, hl with | [_, _, _], _ => rfl
theorem Tx.b_Band_init (T : Tx K mg) : Binds K T.fd_Band_init ["self", "first", "beyond", "place", "up", "down"] [] := T.F_Band_init.binds fun _ _ _ _ _ _ us hl => match us, hl with | [_, _, _, _, _, _], _ => rfl
theorem Tx.b_band_from (T : Tx K mg) : Binds K T.fd_band_from ["now", "wished", "first"] [] := T.F_band_from.binds fun _ _ _ _ _ _ us hl => match us, hl with | [_, _, _], _ => rfl
theorem Tx.b_bands_of (T : Tx K mg) : Binds K T.fd_bands_of ["shelf", "stand", "wish"] [] := T.F_bands_of.binds fun _ _ _ _ _ _ us hl => match us, hl with | [_, _, _], _ => rfl
theorem Tx.b_raised (T : Tx K mg) : Binds K T.fd_raised ["shelf", "gap", "place"] [] := T.F_raised.binds fun _ _ _ _ _ _ us hl => match us, hl with | [_, _, _], _ => rfl
theorem Tx.b_lowered (T : Tx K mg) : Binds K T.fd_lowered ["shelf", "gap", "place"] [] := T.F_lowered.binds fun _ _ _ _ _ _ us hl => match us, hl with | [_, _, _], _ => rfl
theorem Tx.b_row_alone (T : Tx K mg) : Binds K T.fd_row_alone ["shelf", "band"] [] := T.F_row_alone.binds fun _ _ _ _ _ _ us hl => match us, hl with | [_, _], _ => rfl
theorem Tx.b_row_served_by_last (T : Tx K mg) : Binds K T.fd_row_served_by_last ["shelf", "bands"] [] := T.F_row_served_by_last.binds fun _ _ _ _ _ _ us hl => match us, hl with | [_, _], _ => rfl
theorem Tx.b_row_served_by_first (T : Tx K mg) : Binds K T.fd_row_served_by_first ["shelf", "bands"] [] := T.F_row_served_by_first.binds fun _ _ _ _ _ _ us hl => match us, hl with | [_, _], _ => rfl
theorem Tx.b_row_together (T : Tx K mg) : Binds K T.fd_row_together ["shelf", "bands"] [] := T.F_row_together.binds fun _ _ _ _ _ _ us hl => match us, hl with | [_, _], _ => rfl
theorem Tx.b_shortest_row (T : Tx K mg) : Binds K T.fd_shortest_row ["shelf", "stand", "wish"] [] := T.F_shortest_row.binds fun _ _ _ _ _ _ us hl => match us, hl with | [_, _, _], _ => rfl
theorem Tx.b_need_both (T : Tx K mg) : Binds K T.fd_need_both ["shelf", "stand", "wish"] [] := T.F_need_both.binds fun _ _ _ _ _ _ us hl => match us, hl with | [_, _, _], _ => rfl
theorem Tx.b_fewest (T : Tx K mg) : Binds K T.fd_fewest ["shelf", "stand", "wish"] [] := T.F_fewest.binds fun _ _ _ _ _ _ us hl => match us, hl with | [_, _, _], _ => rfl
theorem Tx.b_pushes_to (T : Tx K mg) : Binds K T.fd_pushes_to ["shelf", "stand", "wish"] [] := T.F_pushes_to.binds fun _ _ _ _ _ _ us hl => match us, hl with | [_, _, _], _ => rfl
theorem Tx.b_leads (T : Tx K mg) : Binds K T.fd_leads ["shelf", "stand", "wish", "thing"] [] := T.F_leads.binds fun _ _ _ _ _ _ us hl => match us, hl with | [_, _, _, _], _ => rfl
theorem Tx.b_copied (T : Tx K mg) : Binds K T.fd_copied ["numbers"] [] := T.F_copied.binds fun _ _ _ _ _ _ us hl => match us, hl with | [_], _ => rfl
theorem Tx.b_Bench_init (T : Tx K mg) : Binds K T.fd_Bench_init ["self", "shelf", "stand"] [] := T.F_Bench_init.binds fun _ _ _ _ _ _ us hl => match us, hl with | [_, _, _], _ => rfl
theorem Tx.b_Bench_push (T : Tx K mg) : Binds K T.fd_Bench_push ["self", "thing"] [] := T.F_Bench_push.binds fun _ _ _ _ _ _ us hl => match us, hl with | [_, _], _ => rfl
theorem Tx.b_Bench_set_wish (T : Tx K mg) : Binds K T.fd_Bench_set_wish ["self", "wish"] [] := T.F_Bench_set_wish.binds fun _ _ _ _ _ _ us hl => match us, hl with | [_, _], _ => rfl
theorem Tx.b_Bench_stand (T : Tx K mg) : Binds K T.fd_Bench_stand ["self"] [] := T.F_Bench_stand.binds fun _ _ _ _ _ _ us hl => match us, hl with | [_], _ => rfl
theorem Tx.b_Bench_doing (T : Tx K mg) : Binds K T.fd_Bench_doing ["self"] [] := T.F_Bench_doing.binds fun _ _ _ _ _ _ us hl => match us, hl with | [_], _ => rfl
theorem Tx.b_Bench_pushes (T : Tx K mg) : Binds K T.fd_Bench_pushes ["self"] [] := T.F_Bench_pushes.binds fun _ _ _ _ _ _ us hl => match us, hl with | [_], _ => rfl
theorem Tx.b_Bench_fewest (T : Tx K mg) : Binds K T.fd_Bench_fewest ["self"] [] := T.F_Bench_fewest.binds fun _ _ _ _ _ _ us hl => match us, hl with | [_], _ => rfl
theorem Tx.b_Bench_len (T : Tx K mg) : Binds K T.fd_Bench_len ["self"] [] := T.F_Bench_len.binds fun _ _ _ _ _ _ us hl => match us, hl with | [_], _ => rfl
theorem Tx.b_Bench_eq (T : Tx K mg) : Binds K T.fd_Bench_eq ["self", "other"] [] := T.F_Bench_eq.binds fun _ _ _ _ _ _ us hl => match us, hl with | [_, _], _ => rfl
theorem Tx.b_law_deck (T : Tx K mg) : Binds K T.fd_law_deck ["cell", "turn"] [] := T.F_law_deck.binds fun _ _ _ _ _ _ us hl => match us, hl with | [_, _], _ => rfl
theorem Tx.b_law_pick (T : Tx K mg) : Binds K T.fd_law_pick ["deck", "size"] [] := T.F_law_pick.binds fun _ _ _ _ _ _ us hl => match us, hl with | [_, _], _ => rfl
theorem Tx.b_law_one (T : Tx K mg) : Binds K T.fd_law_one ["deck", "some"] [] := T.F_law_one.binds fun _ _ _ _ _ _ us hl => match us, hl with | [_, _], _ => rfl
theorem Tx.b_law_kin (T : Tx K mg) : Binds K T.fd_law_kin ["e"] [] := T.F_law_kin.binds fun _ _ _ _ _ _ us hl => match us, hl with | [_], _ => rfl
theorem Tx.b_law_try (T : Tx K mg) : Binds K T.fd_law_try ["door"] [] := T.F_law_try.binds fun _ _ _ _ _ _ us hl => match us, hl with | [_], _ => rfl
theorem Tx.b_law_shelf (T : Tx K mg) : Binds K T.fd_law_shelf ["deck", "at_most", "play"] [] := T.F_law_shelf.binds fun _ _ _ _ _ _ us hl => match us, hl with | [_, _, _], _ => rfl
theorem Tx.b_law_play (T : Tx K mg) : Binds K T.fd_law_play ["shelf"] [] := T.F_law_play.binds fun _ _ _ _ _ _ us hl => match us, hl with | [_], _ => rfl
theorem Tx.b_law_stand_of (T : Tx K mg) : Binds K T.fd_law_stand_of ["shelf", "places"] [] := T.F_law_stand_of.binds fun _ _ _ _ _ _ us hl => match us, hl with | [_, _], _ => rfl
theorem Tx.b_law_stand (T : Tx K mg) : Binds K T.fd_law_stand ["deck", "shelf"] [] := T.F_law_stand.binds fun _ _ _ _ _ _ us hl => match us, hl with | [_, _], _ => rfl
theorem Tx.b_law_push (T : Tx K mg) : Binds K T.fd_law_push ["deck", "shelf"] [] := T.F_law_push.binds fun _ _ _ _ _ _ us hl => match us, hl with | [_, _], _ => rfl
theorem Tx.b_law_by_stand (T : Tx K mg) : Binds K T.fd_law_by_stand ["shelf", "stand", "other"] [] := T.F_law_by_stand.binds fun _ _ _ _ _ _ us hl => match us, hl with | [_, _, _], _ => rfl
theorem Tx.b_law_by_row (T : Tx K mg) : Binds K T.fd_law_by_row ["shelf", "row", "other"] [] := T.F_law_by_row.binds fun _ _ _ _ _ _ us hl => match us, hl with | [_, _, _], _ => rfl
theorem Tx.b_law_by_doing (T : Tx K mg) : Binds K T.fd_law_by_doing ["shelf", "doing", "other"] [] := T.F_law_by_doing.binds fun _ _ _ _ _ _ us hl => match us, hl with | [_, _, _], _ => rfl
theorem Tx.b_law_by_shelf (T : Tx K mg) : Binds K T.fd_law_by_shelf ["shelf"] [] := T.F_law_by_shelf.binds fun _ _ _ _ _ _ us hl => match us, hl with | [_], _ => rfl
theorem Tx.b_law_all_told (T : Tx K mg) : Binds K T.fd_law_all_told ["doors", "word"] [] := T.F_law_all_told.binds fun _ _ _ _ _ _ us hl => match us, hl with | [_, _], _ => rfl

end PS

namespace PS
open PySem PySem.Spec PyProof.Rows L2
variable {P : Program} {w : World} {K : PySem.W.Frag} {mg : Str → Option Value} {base : Heap}
def sp_is_whole (K : PySem.W.Frag) : Sp := fun vs H Q _ => ∃ v d, vs = [v] ∧ Dp K H v d ∧ Q (.bl (isW d)) H
theorem ok_is_whole (T : Tx K mg) : FnOk P w K mg base CX0 1 T.f_is_whole T.fd_is_whole ["thing"] (sp_is_whole K) := by
  refine T.F_is_whole.ok sc_is_whole (fun vs H Q E h => ?_) (fun cdv A outer s H vs Q E hr h => ?_)
  · obtain ⟨v, d, rfl, _⟩ := h
    rfl
  · obtain ⟨v, d, rfl, hd, q⟩ := h
    refine ⟨_, (pss_one (ps_ret (pe_and (pe_callB call_isD (by rfl) T.n_isinstance (by decide +kernel) (pa_cons (pv 0) (pa_cons (pe_bltn (v := .ty "int") (by rfl) T.n_int (by decide +kernel) rfl) pa_nil))) (pe_one (pe_not (pe_callB call_isD (by rfl) T.n_isinstance (by decide +kernel) (pa_cons (pv 0) (pa_cons (pe_bltn (v := .ty "bool") (by rfl) T.n_bool (by decide +kernel) rfl) pa_nil)))))))), ?_⟩
    refine ⟨v, rfl, v, _, d, rfl, hd, kInt d, _, rfl, ?_⟩
    rw [isA_int]
    cases hd with
    | bl b => exact iteT ⟨_, rfl, _, _, _, rfl, .bl b, kBool _, _, rfl, by rw [isA_bool]; exact q⟩
    | int b => exact iteT ⟨_, rfl, _, _, _, rfl, .int b, kBool _, _, rfl, by rw [isA_bool]; exact q⟩
    | _ => exact iteF q
def sp_is_within (K : PySem.W.Frag) : Sp := fun vs H Q _ => ∃ v d lo hi, vs = [v, .int lo, .int hi] ∧ Dp K H v d ∧ Q (.bl (within d lo hi)) H
theorem ok_is_within (T : Tx K mg) : FnOk P w K mg base CX0 2 T.f_is_within T.fd_is_within ["thing", "low", "high"] (sp_is_within K) := by
  have G_is_whole := ok_is_whole (P := P) (w := w) (base := base) T
  refine T.F_is_within.ok sc_is_within (fun vs H Q E h => ?_) (fun cdv A outer s H vs Q E hr h => ?_)
  · obtain ⟨v, d, lo, hi, rfl, _⟩ := h
    rfl
  · obtain ⟨v, d, lo, hi, rfl, hd, q⟩ := h
    refine ⟨_, (pss_one (ps_ret (pe_and (pe_call (G_is_whole.mono (by first | decide | omega)) hr (by rfl) T.g_is_whole T.F_is_whole.kp T.b_is_whole .nil pass0 (pa_cons (pv 0) pa_nil)) (pe_one (pe_chain op_le op_le (pv 1) (pv 0) (pv 2)))))), ?_⟩
    refine ⟨v, rfl, v, d, rfl, hd, _, rfl, ?_⟩
    cases hd with
    | int i =>
      refine iteT ⟨_, rfl, _, rfl, _, _, rfl, rfl, _, rfl, ?_⟩
      unfold within at q
      simp only at q
      by_cases hl : lo ≤ i
      · rw [if_pos hl] at q
        rw [if_pos (decide_eq_true hl)]
        exact ⟨_, rfl, _, _, rfl, rfl, q⟩
      · rw [if_neg hl] at q
        rw [if_neg (by simp [hl])]
        exact q
    | _ => exact iteF q
def sp_is_tuple_of (K : PySem.W.Frag) : Sp := fun vs H Q _ => ∃ v d n, vs = [v, .int n] ∧ Dp K H v d ∧ Q (.bl (tupOf d n)) H
theorem ok_is_tuple_of (T : Tx K mg) : FnOk P w K mg base CX0 1 T.f_is_tuple_of T.fd_is_tuple_of ["thing", "many"] (sp_is_tuple_of K) := by
  refine T.F_is_tuple_of.ok sc_is_tuple_of (fun vs H Q E h => ?_) (fun cdv A outer s H vs Q E hr h => ?_)
  · obtain ⟨v, d, n, rfl, _⟩ := h
    rfl
  · obtain ⟨v, d, n, rfl, hd, q⟩ := h
    refine ⟨_, (pss_one (ps_ret (pe_and (pe_callB call_isD (by rfl) T.n_isinstance (by decide +kernel) (pa_cons (pv 0) (pa_cons (pe_bltn (v := .ty "tuple") (by rfl) T.n_tuple (by decide +kernel) rfl) pa_nil))) (pe_one (pe_cmpR op_eq (pe_callB call_len_seq (by rfl) T.n_len (by decide +kernel) (pa_cons (pv 0) pa_nil)) (pv 1) (nomark _)))))), ?_⟩
    refine ⟨v, rfl, v, _, d, rfl, hd, kTuple d, _, rfl, ?_⟩
    rw [isA_tuple]
    cases hd with
    | @tup a xs ds s al =>
      refine iteT ⟨_, rfl, a, xs, rfl, .inr s, _, rfl, rfl, ?_⟩
      rw [dpAll_len al]
      unfold tupOf at q
      simp only at q
      have e : decide (V.int (ds.length : Int) = V.int n) = decide ((ds.length : Int) = n) := by
        by_cases h : (ds.length : Int) = n
        · rw [h]; simp
        · rw [decide_eq_false h, decide_eq_false (fun z => h (V.int.inj z))]
      rw [e]
      exact q
    | _ => exact iteF q
def sp_are_blocks (K : PySem.W.Frag) : Sp := fun vs H Q _ => ∃ v d, vs = [v] ∧ Dp K H v d ∧ RB H Q (areBlocks d)
theorem ok_are_blocks (T : Tx K mg) : FnOk P w K mg base CX0 3 T.f_are_blocks T.fd_are_blocks ["thing"] (sp_are_blocks K) := by
  have G_is_within := ok_is_within (P := P) (w := w) (base := base) T
  refine T.F_are_blocks.ok sc_are_blocks (fun vs H Q E h => ?_) (fun cdv A outer s H vs Q E hr h => ?_)
  · obtain ⟨v, d, rfl, _⟩ := h
    rfl
  · obtain ⟨v, d, rfl, hd, q⟩ := h
    refine ⟨_, (pss_cons (ps_if (PW.pt (pw_or (pt_not (pt_val (pe_callB call_isD (by rfl) T.n_isinstance (by decide +kernel) (pa_cons (pv 0) (pa_cons (pe_bltn (v := .ty "tuple") (by rfl) T.n_tuple (by decide +kernel) rfl) pa_nil))))) (pw_or1 (pt_not (pt_chain op_le op_le pe_int (pe_callB call_len_seq (by rfl) T.n_len (by decide +kernel) (pa_cons (pv 0) pa_nil)) (pe_glob (by rfl) T.c_MOST_BLOCKS.2 T.c_MOST_BLOCKS.1)))))) (pss_one (ps_ret pe_bl)) pss_nil)
      (pss_one (ps_ret (pe_callB (cr_all rfl) (by rfl) T.n_all (by decide +kernel) (pa_cons (pe_lc (own := [("length", 1)]) (g := gName 1) (tt := tYes) rfl sc_are_blocks.nd (pi_tup (pv 0)) (blkOk_by (own := [("length", 1)]) (N := ["thing", "length"]) (sc := defScope s_are_blocks) (by decide +kernel)) (fun _ _ _ _ _ => (pg_name (i := 1) sc_are_blocks.nd rfl (.inl rfl))) (fun _ _ _ _ _ => pts_nil) (fun _ _ _ _ _ => (pe_call (G_is_within.mono (by first | decide | omega)) hr (by rfl) T.g_is_within T.F_is_within.kp T.b_is_within .nil pass0 (pa_cons (pv 1) (pa_cons pe_int (pa_cons (pe_glob (by rfl) T.c_MOST_LENGTH.2 T.c_MOST_LENGTH.1) pa_nil)))))) pa_nil))))), ?_⟩
    refine ⟨v, rfl, v, _, d, rfl, hd, kTuple d, _, rfl, ?_⟩
    rw [isA_tuple]
    cases hd with
    | @tup a xs ds s al =>
      have hl := dpAll_len al
      refine iteF ⟨.ref a, rfl, a, xs, rfl, .inr s, _, _, rfl, rfl, _, rfl, ?_⟩
      have hn : xs.length ≤ sizeLine → True := fun _ => trivial
      unfold areBlocks at q
      simp only at q
      by_cases h1 : 1 ≤ (xs.length : Int)
      · rw [if_pos (decide_eq_true h1)]
        refine ⟨_, _, rfl, rfl, _, rfl, ?_⟩
        by_cases h8 : (xs.length : Int) ≤ 8
        · rw [if_pos ⟨by rw [← hl]; exact h1, by rw [← hl]; exact h8⟩] at q
          rw [decide_eq_true h8]
          refine iteF ?_
          -- all([..])
          refine ⟨.ref a, rfl, a, rfl, ⟨xs, s⟩, fun D nD => ?_⟩
          refine lc_tup (K := K) (a := a) (xs := xs) (fun i H' => Same H H' ∧ H' D = some (.lst ((ds.take i).map fun x => V.bl (within x 1 50)))) ⟨same_new nD, by rw [upd_same]; rfl⟩ (fun i H' _ p => seqT_mono p.1 s) (fun i x H' hx p => ?_) (fun H' p => ?_)
          · obtain ⟨d, e1, e2⟩ := dpAll_get al hx
            have hi : i < xs.length := (List.getElem?_eq_some_iff.mp hx).1
            refine ⟨rfl, x, rfl, x, d, _, _, rfl, Dpm p.1 e2, ?_⟩
            refine ⟨_, p.2, ?_, ?_, ?_⟩
            · rw [List.length_map, List.length_take]
              exact small1000 (by omega)
            · intro b o hb
              have nb : b ≠ D := ne_of_none hb nD
              rw [upd_ne nb]
              exact p.1 b o hb
            · rw [upd_same, List.take_add_one, e1, List.map_append]
              rfl
          · refine ⟨D, (ds.map fun x => within x 1 50), rfl, .inl (.inl ?_), ?_⟩
            · rw [p.2, hl, List.take_length, List.map_map]
              rfl
            · rw [show (ds.map fun x => within x 1 50).all id = ds.all (fun x => within x 1 50) from by rw [List.all_map]; rfl]
              exact q H' p.1
        · rw [if_neg (by rw [← hl]; exact fun z => h8 z.2)] at q
          rw [decide_eq_false h8]
          exact iteT (q H (Same.refl H))
      · rw [if_neg (by rw [← hl]; exact fun z => h1 z.1)] at q
        rw [if_neg (by simp [h1])]
        exact ⟨_, rfl, iteT (q H (Same.refl H))⟩
    | _ => exact iteT (q H (Same.refl H))
end PS

namespace PS
open PySem PySem.Spec PyProof.Rows L2
variable {P : Program} {w : World} {K : PySem.W.Frag} {mg : Str → Option Value} {base : Heap}
theorem tupOf2 {d : PyData} (h : tupOf d 2 = true) : ∃ r b, d = .tuple [r, b] := by
  cases d with
  | tuple ds =>
    have h1 : (ds.length : Int) = 2 := of_decide_eq_true h
    match ds, h1 with
    | [r, b], _ => exact ⟨r, b, rfl⟩
    | [], h => simp at h
    | [_], h => simp at h
    | _ :: _ :: _ :: _, h => simp at h; omega
  | _ => simp [tupOf] at h
theorem tupOf3 {d : PyData} (h : tupOf d 3 = true) : ∃ r b c, d = .tuple [r, b, c] := by
  cases d with
  | tuple ds =>
    have h1 : (ds.length : Int) = 3 := of_decide_eq_true h
    match ds, h1 with
    | [r, b, c], _ => exact ⟨r, b, c, rfl⟩
    | [], h => simp at h
    | [_], h => simp at h
    | [_, _], h => simp at h
    | _ :: _ :: _ :: _ :: _, h => simp at h; omega
  | _ => simp [tupOf] at h
theorem dp_two {H : Hp} {v : V} {r b : PyData} (h : Dp K H v (.tuple [r, b])) : ∃ a x y, v = .ref a ∧ SqT K H a [x, y] ∧ Dp K H x r ∧ Dp K H y b := by
  obtain ⟨a, xs, rfl, s, al⟩ := dp_tup h
  cases al with
  | cons h1 h2 =>
    cases h2 with
    | cons h3 h4 => cases h4; exact ⟨a, _, _, rfl, s, h1, h3⟩
theorem dp_three {H : Hp} {v : V} {r b c : PyData} (h : Dp K H v (.tuple [r, b, c])) : ∃ a x y z, v = .ref a ∧ SqT K H a [x, y, z] ∧ Dp K H x r ∧ Dp K H y b ∧ Dp K H z c := by
  obtain ⟨a, xs, rfl, s, al⟩ := dp_tup h
  cases al with
  | cons h1 h2 =>
    cases h2 with
    | cons h3 h4 =>
      cases h4 with
      | cons h5 h6 => cases h6; exact ⟨a, _, _, _, rfl, s, h1, h3, h5⟩
theorem dp_shelf {H : Hp} {v : V} {room : Int} {ls : List Int} (h : Dp K H v (shD room ls)) : ∃ a b, v = .ref a ∧ SqT K H a [.int room, .ref b] ∧ SqT K H b (iV ls) := by
  obtain ⟨a, x, y, rfl, s, h1, h2⟩ := dp_two h
  obtain ⟨b, rfl, t⟩ := dp_tI h2
  cases dp_int h1
  exact ⟨a, b, rfl, s, t⟩
/-! ### is_shelf, need_shelf -/
def sp_is_shelf (K : PySem.W.Frag) : Sp := fun vs H Q _ => ∃ v d, vs = [v] ∧ Dp K H v d ∧ RB H Q (isShelf d)
theorem ok_is_shelf (T : Tx K mg) : FnOk P w K mg base CX0 4 T.f_is_shelf T.fd_is_shelf ["thing"] (sp_is_shelf K) := by
  have G_is_tuple_of := ok_is_tuple_of (P := P) (w := w) (base := base) T
  have G_are_blocks := ok_are_blocks (P := P) (w := w) (base := base) T
  have G_is_within := ok_is_within (P := P) (w := w) (base := base) T
  refine T.F_is_shelf.ok sc_is_shelf (fun vs H Q E h => ?_) (fun cdv A outer s H vs Q E hr h => ?_)
  · obtain ⟨v, d, rfl, _⟩ := h
    rfl
  · obtain ⟨v, d, rfl, hd, q⟩ := h
    refine ⟨_, (pss_cons (ps_if (pt_not (pt_val (pe_call (G_is_tuple_of.mono (by first | decide | omega)) hr (by rfl) T.g_is_tuple_of T.F_is_tuple_of.kp T.b_is_tuple_of .nil pass0 (pa_cons (pv 0) (pa_cons pe_int pa_nil))))) (pss_one (ps_ret pe_bl)) pss_nil)
      (pss_cons (ps_asg (pv 0) (pg_tup rfl (pgs_cons (pg_name (i := 1) sc_is_shelf.nd rfl (.inl rfl)) (pgs_cons (pg_name (i := 2) sc_is_shelf.nd rfl (.inl rfl)) pgs_nil))))
      (pss_cons (ps_if (pt_not (pt_val (pe_call (G_are_blocks.mono (by first | decide | omega)) hr (by rfl) T.g_are_blocks T.F_are_blocks.kp T.b_are_blocks .nil pass0 (pa_cons (pv 2) pa_nil)))) (pss_one (ps_ret pe_bl)) pss_nil)
      (pss_cons (ps_set (i := 3) sc_is_shelf.nd rfl (.inl rfl) (pe_callB (cr_sumT rfl) (by rfl) T.n_sum (by decide +kernel) (pa_cons (pv 2) pa_nil)))
      (pss_one (ps_ret (pe_call (G_is_within.mono (by first | decide | omega)) hr (by rfl) T.g_is_within T.F_is_within.kp T.b_is_within .nil pass0 (pa_cons (pv 1) (pa_cons (pv 3) (pa_cons (pe_op op_add (pv 3) (pe_glob (by rfl) T.c_MOST_PLAY.2 T.c_MOST_PLAY.1)) pa_nil)))))))))), ?_⟩
    refine ⟨v, rfl, v, d, _, rfl, hd, _, rfl, ?_⟩
    cases e : tupOf d 2 with
    | false =>
      have ef : isShelf d = false := by
        unfold isShelf
        split
        · simp [tupOf] at e
        · rfl
      rw [ef] at q
      exact iteT (q H (Same.refl H))
    | true =>
      refine iteF ?_
      obtain ⟨r, b, rfl⟩ := tupOf2 e
      obtain ⟨a, x, y, rfl, s, h1, h2⟩ := dp_two hd
      refine ⟨.ref a, rfl, a, [x, y], rfl, s, rfl, x, [y], rfl, y, [], rfl, rfl, ?_⟩
      refine ⟨y, rfl, y, b, rfl, h2, fun H' sm => ⟨_, rfl, ?_⟩⟩
      cases e2 : areBlocks b with
      | false =>
        have ef : isShelf (.tuple [r, b]) = false := by
          unfold isShelf
          split
          · rename_i h; cases h
            rw [e2]; rfl
          · rfl
        rw [ef] at q
        exact iteT (q H' sm)
      | true =>
        refine iteF ?_
        cases b with
        | tuple bs =>
          obtain ⟨ls, rfl, n1, n8, l1⟩ := areBlocks_ints e2
          obtain ⟨c, rfl, t⟩ := dp_tI h2
          refine ⟨.ref c, rfl, c, ls, rfl, seqT_mono sm t, ?_⟩
          refine ⟨x, rfl, _, rfl, _, rfl, _, _, rfl, rfl, x, r, _, _, rfl, Dpm sm h1, ?_⟩
          unfold isShelf at q
          simp only at q
          rw [if_pos e2, intOf_iD] at q
          exact q H' sm
        | _ => simp [areBlocks] at e2
def sp_need_shelf (K : PySem.W.Frag) : Sp := fun vs H Q _ => ∃ v d, vs = [v] ∧ Dp K H v d ∧ isShelf d = true ∧ ∀ H', Same H H' → Q .non H'
theorem ok_need_shelf (T : Tx K mg) : FnOk P w K mg base CX0 5 T.f_need_shelf T.fd_need_shelf ["thing"] (sp_need_shelf K) := by
  have G_is_shelf := ok_is_shelf (P := P) (w := w) (base := base) T
  refine T.F_need_shelf.ok sc_need_shelf (fun vs H Q E h => ?_) (fun cdv A outer s H vs Q E hr h => ?_)
  · obtain ⟨v, d, rfl, _⟩ := h
    rfl
  · obtain ⟨v, d, rfl, hd, e, q⟩ := h
    refine ⟨_, (pss_one (ps_if (pt_not (pt_val (pe_call (G_is_shelf.mono (by first | decide | omega)) hr (by rfl) T.g_is_shelf T.F_is_shelf.kp T.b_is_shelf .nil pass0 (pa_cons (pv 0) pa_nil)))) (pss_one ps_never) pss_nil)), ?_⟩
    refine ⟨v, rfl, v, d, rfl, hd, fun H' sm => ⟨_, rfl, ?_⟩⟩
    rw [e]
    exact iteF (q H' sm)
/-! ### play_of, gap_length -/
def sp_play_of (K : PySem.W.Frag) : Sp := fun vs H Q _ => ∃ v room ls, vs = [v] ∧ Dp K H v (shD room ls) ∧ Q (.int (room - ls.sum)) H
theorem ok_play_of (T : Tx K mg) : FnOk P w K mg base CX0 1 T.f_play_of T.fd_play_of ["shelf"] (sp_play_of K) := by
  refine T.F_play_of.ok sc_play_of (fun vs H Q E h => ?_) (fun cdv A outer s H vs Q E hr h => ?_)
  · obtain ⟨v, d, _, rfl, _⟩ := h
    rfl
  · obtain ⟨v, room, ls, rfl, hd, q⟩ := h
    obtain ⟨a, b, rfl, s, t⟩ := dp_shelf hd
    refine ⟨_, (pss_cons (ps_asg (pv 0) (pg_tup rfl (pgs_cons (pg_name (i := 1) sc_play_of.nd rfl (.inl rfl)) (pgs_cons (pg_name (i := 2) sc_play_of.nd rfl (.inl rfl)) pgs_nil))))
      (pss_one (ps_ret (pe_op op_sub (pv 1) (pe_callB (cr_sumT rfl) (by rfl) T.n_sum (by decide +kernel) (pa_cons (pv 2) pa_nil)))))), ?_⟩
    exact ⟨.ref a, rfl, a, _, rfl, s, rfl, _, _, rfl, _, [], rfl, rfl, _, rfl, _, rfl, b, ls, rfl, t, _, _, rfl, rfl, q⟩
def sp_gap_length (K : PySem.W.Frag) : Sp := fun vs H Q _ => ∃ v room ls g, vs = [v, .int (g : Nat)] ∧ Dp K H v (shD room ls) ∧ RI H Q (pre ls g)
theorem ok_gap_length (T : Tx K mg) : FnOk P w K mg base CX0 1 T.f_gap_length T.fd_gap_length ["shelf", "gap"] (sp_gap_length K) := by
  refine T.F_gap_length.ok sc_gap_length (fun vs H Q E h => ?_) (fun cdv A outer s H vs Q E hr h => ?_)
  · obtain ⟨v, d, _, _, rfl, _⟩ := h
    rfl
  · obtain ⟨v, room, ls, g, rfl, hd, q⟩ := h
    obtain ⟨a, b, rfl, s, t⟩ := dp_shelf hd
    refine ⟨_, (pss_one (ps_ret (pe_callB (cr_sumT rfl) (by rfl) T.n_sum (by decide +kernel) (pa_cons (pe_slice sl_tupA (pe_ix ix_tup (pv 0) pe_int (fun _ _ => rfl)) po_none (po_some (pv 1))) pa_nil)))), ?_⟩
    refine ⟨.ref a, rfl, a, _, 1, _, rfl, rfl, s, atI_nat (j := 1) rfl, _, rfl, _, rfl, ?_⟩
    refine slT_to (k := g) t fun p H' sm st => ⟨p, ls.take g, rfl, ?_, q H' sm⟩
    rw [← List.map_take] at st
    exact st
/-! ### is_stand, need_stand -/
def sp_is_stand (K : PySem.W.Frag) : Sp := fun vs H Q _ => ∃ v u room ls d, vs = [v, u] ∧ Dp K H v (shD room ls) ∧ ShOk room ls ∧ Dp K H u d ∧ RB H Q (isStand room ls d)
theorem ok_is_stand (T : Tx K mg) : FnOk P w K mg base CX0 6 T.f_is_stand T.fd_is_stand ["shelf", "thing"] (sp_is_stand K) := by
  have G_need_shelf := ok_need_shelf (P := P) (w := w) (base := base) T
  have G_is_tuple_of := ok_is_tuple_of (P := P) (w := w) (base := base) T
  have G_is_whole := ok_is_whole (P := P) (w := w) (base := base) T
  refine T.F_is_stand.ok sc_is_stand (fun vs H Q E h => ?_) (fun cdv A outer s H vs Q E hr h => ?_)
  · obtain ⟨v, u, _, _, d, rfl, _⟩ := h
    rfl
  · obtain ⟨v, u, room, ls, d, rfl, hs, sh, hd, q⟩ := h
    refine ⟨_, (pss_cons (ps_expr (pe_call (G_need_shelf.mono (by first | decide | omega)) hr (by rfl) T.g_need_shelf T.F_need_shelf.kp T.b_need_shelf .nil pass0 (pa_cons (pv 0) pa_nil)))
      (pss_cons (ps_asg (pv 0) (pg_tup rfl (pgs_cons (pg_name (i := 2) sc_is_stand.nd rfl (.inl rfl)) (pgs_cons (pg_name (i := 3) sc_is_stand.nd rfl (.inl rfl)) pgs_nil))))
      (pss_cons (ps_if (pt_not (pt_val (pe_call (G_is_tuple_of.mono (by first | decide | omega)) hr (by rfl) T.g_is_tuple_of T.F_is_tuple_of.kp T.b_is_tuple_of .nil pass0 (pa_cons (pv 1) (pa_cons (pe_callB call_len_seq (by rfl) T.n_len (by decide +kernel) (pa_cons (pv 3) pa_nil)) pa_nil))))) (pss_one (ps_ret pe_bl)) pss_nil)
      (pss_cons (ps_set (i := 4) sc_is_stand.nd rfl (.inl rfl) pe_int)
      (pss_cons (ps_for PassesOwn.never rfl (pi_zip2 false false (by rfl) T.n_zip (pa_cons (pv 1) (pa_cons (pv 3) pa_nil))) (pg_tup rfl (pgs_cons (pg_name (i := 5) sc_is_stand.nd rfl (.inl rfl)) (pgs_cons (pg_name (i := 6) sc_is_stand.nd rfl (.inl rfl)) pgs_nil)))
      (pss_cons (ps_if (PW.pt (pw_or (pt_not (pt_val (pe_call (G_is_whole.mono (by first | decide | omega)) hr (by rfl) T.g_is_whole T.F_is_whole.kp T.b_is_whole .nil pass0 (pa_cons (pv 5) pa_nil)))) (pw_or1 (pt_cmpR op_lt (pv 5) (pv 4) (nomark _))))) (pss_one (ps_ret pe_bl)) pss_nil)
      (pss_one (ps_set (i := 4) sc_is_stand.nd rfl (.inl rfl) (pe_op op_add (pv 5) (pv 6))))))
      (pss_one (ps_ret (pe_cmpR op_le (pv 4) (pv 2) (nomark _))))))))), ?_⟩
    refine ⟨v, rfl, v, _, rfl, hs, isShelf_ok sh, fun H1 s1 => ?_⟩
    obtain ⟨a, b, rfl, sa, sb⟩ := dp_shelf (Dpm s1 hs)
    refine ⟨.ref a, rfl, a, _, rfl, sa, rfl, _, _, rfl, _, [], rfl, rfl, ?_⟩
    refine ⟨u, rfl, .ref b, rfl, b, _, rfl, .inr sb, u, d, _, rfl, Dpm s1 hd, _, rfl, ?_⟩
    rw [List.length_map]
    cases e : tupOf d ls.length with
    | false =>
      have ef : isStand room ls d = false := by
        unfold isStand
        cases d with
        | tuple ds =>
          simp only
          rw [if_neg (of_decide_eq_false e)]
        | _ => rfl
      rw [ef] at q
      exact iteT (q H1 s1)
    | true =>
      refine iteF ?_
      cases d with
      | tuple ds =>
        have el : (ds.length : Int) = ls.length := of_decide_eq_true e
        unfold isStand at q
        simp only at q
        rw [if_pos el] at q
        obtain ⟨c, xs, rfl, sc, al⟩ := dp_tup (Dpm s1 hd)
        have hxl := dpAll_len al
        refine ⟨.ref c, rfl, .ref b, rfl, c, b, xs, iV ls, rfl, sc, sb, ?_⟩
        refine for_it (walk_2 (n := ls.length) (xs := xs) (ys := iV ls) (by rw [List.length_map]; omega)) (fun i σ H' => Same H1 H' ∧ ∃ e y5 y6, σ = [some (.ref a), some (.ref c), some (.int room), some (.ref b), some (.int e), y5, y6] ∧ standG room e (ds.drop i) (ls.drop i) = standG room 0 ds ls)
          ⟨Same.refl H1, 0, none, none, rfl, rfl⟩ (fun i σ H' _ p => ⟨seqT_mono p.1 sc, seqT_mono p.1 sb⟩) (fun i x σ H' H2 hi p y => ?_) (fun σ H' p => ?_)
        · obtain ⟨s2, e0, y5, y6, rfl, eq⟩ := p
          obtain ⟨Tt, x, y, rfl, nT, rfl, hx, hy⟩ := y
          have s3 : Same H1 (upd H' Tt (.tup [x, y])) := s2.trans (same_new nT)
          obtain ⟨dx, e1, e2⟩ := dpAll_get al hx
          have hy' : y = .int ls[i] := by
            rw [List.getElem?_map, List.getElem?_eq_getElem hi] at hy
            exact (Option.some.inj hy).symm
          subst hy'
          refine ⟨Tt, _, rfl, .inl (.inl upd_same), rfl, _, _, rfl, _, [], rfl, rfl, ?_⟩
          refine ⟨x, rfl, x, dx, rfl, Dpm s3 e2, _, rfl, ?_⟩
          have hd1 : i < ds.length := by omega
          have e1' : ds[i] = dx := by
            rw [List.getElem?_eq_getElem hd1] at e1
            exact Option.some.inj e1
          rw [List.drop_eq_getElem_cons hd1, List.drop_eq_getElem_cons hi, e1'] at eq
          cases e2 with
          | int k =>
            refine iteF ⟨_, rfl, _, rfl, _, _, rfl, rfl, _, rfl, ?_⟩
            have eq : (if k < e0 then false else standG room (k + ls[i]) (ds.drop (i + 1)) (ls.drop (i + 1))) = standG room 0 ds ls := eq
            by_cases hk : k < e0
            · rw [if_pos hk] at eq
              rw [← eq] at q
              rw [decide_eq_true hk]
              exact iteT (q _ (s1.trans s3))
            · rw [if_neg hk] at eq
              rw [decide_eq_false hk]
              exact iteF ⟨_, rfl, _, rfl, _, _, rfl, rfl, s3, _, _, _, rfl, eq⟩
          | _ =>
            refine iteT ?_
            have eq : false = standG room 0 ds ls := eq
            rw [← eq] at q
            exact q _ (s1.trans s3)
        · obtain ⟨s2, e0, y5, y6, rfl, eq⟩ := p
          rw [List.drop_of_length_le (by omega), List.drop_of_length_le (Nat.le_refl _)] at eq
          refine ⟨_, rfl, _, rfl, _, _, rfl, rfl, ?_⟩
          rw [← eq] at q
          exact q _ (s1.trans s2)
      | _ => simp [tupOf] at e
def sp_need_stand (K : PySem.W.Frag) : Sp := fun vs H Q _ => ∃ v u room ls d, vs = [v, u] ∧ Dp K H v (shD room ls) ∧ ShOk room ls ∧ Dp K H u d ∧ isStand room ls d = true ∧ ∀ H', Same H H' → Q .non H'
theorem ok_need_stand (T : Tx K mg) : FnOk P w K mg base CX0 7 T.f_need_stand T.fd_need_stand ["shelf", "thing"] (sp_need_stand K) := by
  have G_is_stand := ok_is_stand (P := P) (w := w) (base := base) T
  refine T.F_need_stand.ok sc_need_stand (fun vs H Q E h => ?_) (fun cdv A outer s H vs Q E hr h => ?_)
  · obtain ⟨v, u, _, _, d, rfl, _⟩ := h
    rfl
  · obtain ⟨v, u, room, ls, d, rfl, hs, sh, hd, e, q⟩ := h
    refine ⟨_, (pss_one (ps_if (pt_not (pt_val (pe_call (G_is_stand.mono (by first | decide | omega)) hr (by rfl) T.g_is_stand T.F_is_stand.kp T.b_is_stand .nil pass0 (pa_cons (pv 0) (pa_cons (pv 1) pa_nil))))) (pss_one ps_never) pss_nil)), ?_⟩
    refine ⟨v, rfl, u, rfl, v, u, room, ls, d, rfl, hs, sh, hd, fun H' sm => ⟨_, rfl, ?_⟩⟩
    rw [e]
    exact iteF (q H' sm)
end PS

namespace PS
open PySem PySem.Spec PyProof.Rows L2
variable {P : Program} {w : World} {K : PySem.W.Frag} {mg : Str → Option Value} {base : Heap}
/-! ### is_gap, is_push, is_row -/
def sp_is_gap (K : PySem.W.Frag) : Sp := fun vs H Q _ => ∃ v s g room ls sd gd, vs = [v, s, g] ∧ Dp K H v (shD room ls) ∧ Dp K H s sd ∧ sd.depth ≤ 64 ∧ Dp K H g gd ∧ Q (.bl (isGap ls.length sd gd)) H
theorem ok_is_gap (T : Tx K mg) : FnOk P w K mg base CX0 3 T.f_is_gap T.fd_is_gap ["shelf", "side", "thing"] (sp_is_gap K) := by
  have G_is_within := ok_is_within (P := P) (w := w) (base := base) T
  refine T.F_is_gap.ok sc_is_gap (fun vs H Q E h => ?_) (fun cdv A outer s H vs Q E hr h => ?_)
  · obtain ⟨v, s, g, _, _, _, _, rfl, _⟩ := h
    rfl
  · obtain ⟨v, s, g, room, ls, sd, gd, rfl, hv, hs, dep, hg, q⟩ := h
    obtain ⟨a, b, rfl, sa, sb⟩ := dp_shelf hv
    refine ⟨_, (pss_cons (ps_set (i := 3) sc_is_gap.nd rfl (.inl rfl) (pe_callB call_len_seq (by rfl) T.n_len (by decide +kernel) (pa_cons (pe_ix ix_tup (pv 0) pe_int (fun _ _ => rfl)) pa_nil)))
      (pss_cons (ps_if (pt_cmpR (op_eqP hr.units) (pv 1) pe_str (nomark _)) (pss_one (ps_ret (pe_call (G_is_within.mono (by first | decide | omega)) hr (by rfl) T.g_is_within T.F_is_within.kp T.b_is_within .nil pass0 (pa_cons (pv 2) (pa_cons pe_int (pa_cons (pe_op op_sub (pv 3) pe_int) pa_nil)))))) pss_nil)
      (pss_cons (ps_if (pt_cmpR (op_eqP hr.units) (pv 1) pe_str (nomark _)) (pss_one (ps_ret (pe_call (G_is_within.mono (by first | decide | omega)) hr (by rfl) T.g_is_within T.F_is_within.kp T.b_is_within .nil pass0 (pa_cons (pv 2) (pa_cons pe_int (pa_cons (pv 3) pa_nil)))))) pss_nil)
      (pss_one (ps_ret pe_bl))))), ?_⟩
    have hl : (iV ls).length = ls.length := List.length_map ..
    refine ⟨.ref a, rfl, a, _, 1, _, rfl, rfl, sa, atI_nat (j := 1) rfl, b, _, rfl, .inr sb, ?_⟩
    rw [hl]
    refine ⟨s, rfl, sd, _, hs, .str _, dep, _, rfl, ?_⟩
    unfold isGap at q
    cases e : PyData.eqv sd (.str "right") with
    | true =>
      rw [if_pos e] at q
      exact iteT ⟨g, rfl, _, rfl, _, _, rfl, rfl, g, gd, _, _, rfl, hg, q⟩
    | false =>
      rw [if_neg (by simp [e])] at q
      refine iteF ⟨s, rfl, sd, _, hs, .str _, dep, _, rfl, ?_⟩
      cases e2 : PyData.eqv sd (.str "left") with
      | true =>
        rw [if_pos e2] at q
        exact iteT ⟨g, rfl, _, rfl, g, gd, _, _, rfl, hg, q⟩
      | false =>
        rw [if_neg (by simp [e2])] at q
        exact iteF q
theorem within_int {d : PyData} {lo hi : Int} (h : within d lo hi = true) : ∃ i, d = .int i ∧ lo ≤ i ∧ i ≤ hi := by
  cases d with
  | int i =>
    have h : (if lo ≤ i then decide (i ≤ hi) else false) = true := h
    by_cases hl : lo ≤ i
    · rw [if_pos hl] at h
      exact ⟨i, rfl, hl, of_decide_eq_true h⟩
    · rw [if_neg hl] at h; cases h
  | _ => simp [within] at h
theorem isGap_int {n : Int} {s g : PyData} (h : isGap n s g = true) : ∃ k : Nat, g = .int (k : Int) := by
  unfold isGap at h
  split at h
  · obtain ⟨i, rfl, h0, _⟩ := within_int h
    exact ⟨i.toNat, by rw [Int.toNat_of_nonneg h0]⟩
  · split at h
    · obtain ⟨i, rfl, h0, _⟩ := within_int h
      exact ⟨i.toNat, by rw [Int.toNat_of_nonneg (by omega)]⟩
    · cases h
def sp_is_push (K : PySem.W.Frag) : Sp := fun vs H Q _ => ∃ v u room ls d, vs = [v, u] ∧ Dp K H v (shD room ls) ∧ Dp K H u d ∧ d.depth ≤ 64 ∧ RB H Q (isPush room ls d)
theorem ok_is_push (T : Tx K mg) : FnOk P w K mg base CX0 4 T.f_is_push T.fd_is_push ["shelf", "thing"] (sp_is_push K) := by
  have G_is_tuple_of := ok_is_tuple_of (P := P) (w := w) (base := base) T
  have G_is_gap := ok_is_gap (P := P) (w := w) (base := base) T
  have G_gap_length := ok_gap_length (P := P) (w := w) (base := base) T
  have G_is_within := ok_is_within (P := P) (w := w) (base := base) T
  have G_play_of := ok_play_of (P := P) (w := w) (base := base) T
  refine T.F_is_push.ok sc_is_push (fun vs H Q E h => ?_) (fun cdv A outer s H vs Q E hr h => ?_)
  · obtain ⟨v, u, _, _, d, rfl, _⟩ := h
    rfl
  · obtain ⟨v, u, room, ls, d, rfl, hv, hd, dep, q⟩ := h
    refine ⟨_, (pss_cons (ps_if (pt_not (pt_val (pe_call (G_is_tuple_of.mono (by first | decide | omega)) hr (by rfl) T.g_is_tuple_of T.F_is_tuple_of.kp T.b_is_tuple_of .nil pass0 (pa_cons (pv 1) (pa_cons pe_int pa_nil))))) (pss_one (ps_ret pe_bl)) pss_nil)
      (pss_cons (ps_asg (pv 1) (pg_tup rfl (pgs_cons (pg_name (i := 2) sc_is_push.nd rfl (.inl rfl)) (pgs_cons (pg_name (i := 3) sc_is_push.nd rfl (.inl rfl)) (pgs_cons (pg_name (i := 4) sc_is_push.nd rfl (.inl rfl)) pgs_nil)))))
      (pss_cons (ps_if (pt_not (pt_val (pe_call (G_is_gap.mono (by first | decide | omega)) hr (by rfl) T.g_is_gap T.F_is_gap.kp T.b_is_gap .nil pass0 (pa_cons (pv 0) (pa_cons (pv 2) (pa_cons (pv 3) pa_nil)))))) (pss_one (ps_ret pe_bl)) pss_nil)
      (pss_cons (ps_set (i := 5) sc_is_push.nd rfl (.inl rfl) (pe_call (G_gap_length.mono (by first | decide | omega)) hr (by rfl) T.g_gap_length T.F_gap_length.kp T.b_gap_length .nil pass0 (pa_cons (pv 0) (pa_cons (pv 3) pa_nil))))
      (pss_one (ps_ret (pe_call (G_is_within.mono (by first | decide | omega)) hr (by rfl) T.g_is_within T.F_is_within.kp T.b_is_within .nil pass0 (pa_cons (pv 4) (pa_cons (pv 5) (pa_cons (pe_op op_add (pv 5) (pe_call (G_play_of.mono (by first | decide | omega)) hr (by rfl) T.g_play_of T.F_play_of.kp T.b_play_of .nil pass0 (pa_cons (pv 0) pa_nil))) pa_nil)))))))))), ?_⟩
    refine ⟨u, rfl, u, d, _, rfl, hd, _, rfl, ?_⟩
    cases e : tupOf d 3 with
    | false =>
      have ef : isPush room ls d = false := by
        unfold isPush
        split
        · simp [tupOf] at e
        · rfl
      rw [ef] at q
      exact iteT (q H (Same.refl H))
    | true =>
      refine iteF ?_
      obtain ⟨s, g, p, rfl⟩ := tupOf3 e
      obtain ⟨a, x, y, z, rfl, sq, h1, h2, h3⟩ := dp_three hd
      have dall : PyData.depthAll [s, g, p] + 1 ≤ 64 := by simpa [PyData.depth] using dep
      have ds : s.depth ≤ 64 := Nat.le_trans (depth_of_all (n := 63) [s, g, p] (by omega) s (by simp)) (by decide)
      refine ⟨.ref a, rfl, a, _, rfl, sq, rfl, _, _, rfl, _, _, rfl, _, [], rfl, rfl, ?_⟩
      refine ⟨v, rfl, x, rfl, y, rfl, v, x, y, room, ls, s, g, rfl, hv, h1, ds, h2, _, rfl, ?_⟩
      unfold isPush at q
      simp only at q
      cases e2 : isGap ls.length s g with
      | false =>
        rw [if_neg (by simp [e2])] at q
        exact iteT (q H (Same.refl H))
      | true =>
        rw [if_pos e2] at q
        refine iteF ?_
        obtain ⟨k, rfl⟩ := isGap_int e2
        cases dp_int h2
        refine ⟨v, rfl, _, rfl, v, room, ls, k, rfl, hv, fun H' sm => ?_⟩
        refine ⟨z, rfl, _, rfl, _, rfl, v, rfl, v, room, ls, rfl, Dpm sm hv, _, _, rfl, rfl, z, p, _, _, rfl, Dpm sm h3, ?_⟩
        simpa [intOf] using q H' sm
def sp_is_row (K : PySem.W.Frag) : Sp := fun vs H Q _ => ∃ v u room ls d, vs = [v, u] ∧ Dp K H v (shD room ls) ∧ ShOk room ls ∧ Dp K H u d ∧ d.depth ≤ 64 ∧ RB H Q (isRow room ls d)
theorem ok_is_row (T : Tx K mg) : FnOk P w K mg base CX0 6 T.f_is_row T.fd_is_row ["shelf", "thing"] (sp_is_row K) := by
  have G_need_shelf := ok_need_shelf (P := P) (w := w) (base := base) T
  have G_is_push := ok_is_push (P := P) (w := w) (base := base) T
  refine T.F_is_row.ok sc_is_row (fun vs H Q E h => ?_) (fun cdv A outer s H vs Q E hr h => ?_)
  · obtain ⟨v, u, _, _, d, rfl, _⟩ := h
    rfl
  · obtain ⟨v, u, room, ls, d, rfl, hv, sh, hd, dep, q⟩ := h
    refine ⟨_, (pss_cons (ps_expr (pe_call (G_need_shelf.mono (by first | decide | omega)) hr (by rfl) T.g_need_shelf T.F_need_shelf.kp T.b_need_shelf .nil pass0 (pa_cons (pv 0) pa_nil)))
      (pss_cons (ps_if (PW.pt (pw_or (pt_not (pt_val (pe_callB call_isD (by rfl) T.n_isinstance (by decide +kernel) (pa_cons (pv 1) (pa_cons (pe_bltn (v := .ty "list") (by rfl) T.n_list (by decide +kernel) rfl) pa_nil))))) (pw_or1 (pt_cmpR op_gt (pe_callB call_len_seq (by rfl) T.n_len (by decide +kernel) (pa_cons (pv 1) pa_nil)) (pe_glob (by rfl) T.c_MOST_PUSHES.2 T.c_MOST_PUSHES.1) (nomark _))))) (pss_one (ps_ret pe_bl)) pss_nil)
      (pss_one (ps_ret (pe_callB (cr_all rfl) (by rfl) T.n_all (by decide +kernel) (pa_cons (pe_lc (own := [("push", 2)]) (g := gName 2) (tt := tYes) rfl sc_is_row.nd (pi_list (pv 1)) (blkOk_by (own := [("push", 2)]) (N := ["shelf", "thing", "push"]) (sc := defScope s_is_row) (by decide +kernel)) (fun _ _ _ _ _ => (pg_name (i := 2) sc_is_row.nd rfl (.inl rfl))) (fun _ _ _ _ _ => pts_nil) (fun _ _ _ _ _ => (pe_call (G_is_push.mono (by first | decide | omega)) hr (by rfl) T.g_is_push T.F_is_push.kp T.b_is_push .nil pass0 (pa_cons (pv 0) (pa_cons (pv 2) pa_nil))))) pa_nil)))))), ?_⟩
    refine ⟨v, rfl, v, _, rfl, hv, isShelf_ok sh, fun H1 s1 => ?_⟩
    refine ⟨u, rfl, u, _, d, rfl, Dpm s1 hd, kList d, _, rfl, ?_⟩
    rw [isA_list]
    cases hd with
    | @lst a xs ds s al =>
      have hl := dpAll_len al
      have s' := s1.seq s
      refine iteF ⟨.ref a, rfl, a, xs, rfl, .inl s', _, _, rfl, rfl, _, rfl, ?_⟩
      have q : RB H Q (if (ds.length : Int) > 200 then false else ds.all (isPush room ls)) := q
      rw [hl]
      by_cases h2 : (ds.length : Int) > 200
      · rw [if_pos h2] at q
        rw [decide_eq_true h2]
        exact iteT (q H1 s1)
      · rw [if_neg h2] at q
        rw [decide_eq_false h2]
        refine iteF ?_
        have dall : PyData.depthAll ds + 1 ≤ 64 := by simpa [PyData.depth] using dep
        refine ⟨.ref a, rfl, a, rfl, ⟨xs, s'⟩, fun D nD => ?_⟩
        refine lc_list (K := K) (a := a) (xs := xs) (fun i H' => Same H1 H' ∧ H' D = some (.lst ((ds.take i).map fun x => V.bl (isPush room ls x)))) ⟨same_new nD, by rw [upd_same]; rfl⟩ (fun i H' _ p => p.1.seq s') (fun i x H' hx p => ?_) (fun H' p => ?_)
        · obtain ⟨d, e1, e2⟩ := dpAll_get al hx
          have hi : i < xs.length := (List.getElem?_eq_some_iff.mp hx).1
          have hm : d ∈ ds := List.mem_of_getElem? e1
          refine ⟨rfl, v, rfl, x, rfl, v, x, room, ls, d, rfl, Dpm (s1.trans p.1) hv, Dpm (s1.trans p.1) e2, Nat.le_trans (depth_of_all (n := 63) _ (by omega) d hm) (by decide), fun H3 s3 => ?_⟩
          refine ⟨_, s3 _ _ p.2, ?_, ?_, ?_⟩
          · rw [List.length_map, List.length_take]
            exact small1000 (by omega)
          · intro b o hb
            have nb : b ≠ D := ne_of_none hb nD
            rw [upd_ne nb]
            exact s3 _ _ (p.1 b o hb)
          · rw [upd_same, List.take_add_one, e1, List.map_append]
            rfl
        · refine ⟨D, (ds.map (isPush room ls)), rfl, .inl (.inl ?_), ?_⟩
          · rw [p.2, hl, List.take_length, List.map_map]
            rfl
          · rw [show (ds.map (isPush room ls)).all id = ds.all (isPush room ls) from by rw [List.all_map]; rfl]
            exact q H' (s1.trans p.1)
    | _ => exact iteT (q H1 s1)
def sp_need_row (K : PySem.W.Frag) : Sp := fun vs H Q _ => ∃ v u room ls d, vs = [v, u] ∧ Dp K H v (shD room ls) ∧ ShOk room ls ∧ Dp K H u d ∧ d.depth ≤ 64 ∧ isRow room ls d = true ∧ ∀ H', Same H H' → Q .non H'
theorem ok_need_row (T : Tx K mg) : FnOk P w K mg base CX0 7 T.f_need_row T.fd_need_row ["shelf", "thing"] (sp_need_row K) := by
  have G_is_row := ok_is_row (P := P) (w := w) (base := base) T
  refine T.F_need_row.ok sc_need_row (fun vs H Q E h => ?_) (fun cdv A outer s H vs Q E hr h => ?_)
  · obtain ⟨v, u, _, _, d, rfl, _⟩ := h
    rfl
  · obtain ⟨v, u, room, ls, d, rfl, hs, sh, hd, dep, e, q⟩ := h
    refine ⟨_, (pss_one (ps_if (pt_not (pt_val (pe_call (G_is_row.mono (by first | decide | omega)) hr (by rfl) T.g_is_row T.F_is_row.kp T.b_is_row .nil pass0 (pa_cons (pv 0) (pa_cons (pv 1) pa_nil))))) (pss_one ps_never) pss_nil)), ?_⟩
    refine ⟨v, rfl, u, rfl, v, u, room, ls, d, rfl, hs, sh, hd, dep, fun H' sm => ⟨_, rfl, ?_⟩⟩
    rw [e]
    exact iteF (q H' sm)
end PS

namespace PS
open PySem PySem.Spec PyProof.Rows L2
variable {P : Program} {w : World} {K : PySem.W.Frag} {mg : Str → Option Value} {base : Heap}
/-! ### is_doing, need_doing, led -/
def sp_is_doing (K : PySem.W.Frag) : Sp := fun vs H Q _ => ∃ v u room ls d, vs = [v, u] ∧ Dp K H v (shD room ls) ∧ ShOk room ls ∧ Dp K H u d ∧ RB H Q (isDoing room ls d)
theorem zip_all (ns ms : List Int) (i : Nat) (n m : Int) (e1 : ns[i]? = some n) (e2 : ms[i]? = some m) : (List.zipWith (fun a b => decide (a ≤ b)) ns ms)[i]? = some (decide (n ≤ m)) := by
  rw [List.getElem?_zipWith, e1, e2]
theorem ok_is_doing (T : Tx K mg) : FnOk P w K mg base CX0 7 T.f_is_doing T.fd_is_doing ["shelf", "thing"] (sp_is_doing K) := by
  have G_need_shelf := ok_need_shelf (P := P) (w := w) (base := base) T
  have G_is_tuple_of := ok_is_tuple_of (P := P) (w := w) (base := base) T
  have G_is_stand := ok_is_stand (P := P) (w := w) (base := base) T
  refine T.F_is_doing.ok sc_is_doing (fun vs H Q E h => ?_) (fun cdv A outer s H vs Q E hr h => ?_)
  · obtain ⟨v, u, _, _, d, rfl, _⟩ := h
    rfl
  · obtain ⟨v, u, room, ls, d, rfl, hv, sh, hd, q⟩ := h
    refine ⟨_, (pss_cons (ps_expr (pe_call (G_need_shelf.mono (by first | decide | omega)) hr (by rfl) T.g_need_shelf T.F_need_shelf.kp T.b_need_shelf .nil pass0 (pa_cons (pv 0) pa_nil)))
      (pss_cons (ps_if (pt_not (pt_val (pe_call (G_is_tuple_of.mono (by first | decide | omega)) hr (by rfl) T.g_is_tuple_of T.F_is_tuple_of.kp T.b_is_tuple_of .nil pass0 (pa_cons (pv 1) (pa_cons pe_int pa_nil))))) (pss_one (ps_ret pe_bl)) pss_nil)
      (pss_cons (ps_asg (pv 1) (pg_tup rfl (pgs_cons (pg_name (i := 2) sc_is_doing.nd rfl (.inl rfl)) (pgs_cons (pg_name (i := 3) sc_is_doing.nd rfl (.inl rfl)) pgs_nil))))
      (pss_cons (ps_if (PW.pt (pw_or (pt_not (pt_val (pe_call (G_is_stand.mono (by first | decide | omega)) hr (by rfl) T.g_is_stand T.F_is_stand.kp T.b_is_stand .nil pass0 (pa_cons (pv 0) (pa_cons (pv 2) pa_nil))))) (pw_or1 (pt_not (pt_val (pe_call (G_is_stand.mono (by first | decide | omega)) hr (by rfl) T.g_is_stand T.F_is_stand.kp T.b_is_stand .nil pass0 (pa_cons (pv 0) (pa_cons (pv 3) pa_nil)))))))) (pss_one (ps_ret pe_bl)) pss_nil)
      (pss_one (ps_ret (pe_callB (cr_all rfl) (by rfl) T.n_all (by decide +kernel) (pa_cons (pe_lc (own := [("low", 4), ("high", 5)]) (g := gTup K 2 (gCons (gName 4) (gCons (gName 5) gNil))) (tt := tYes) rfl sc_is_doing.nd (pi_zip2 false false (by rfl) T.n_zip (pa_cons (pv 2) (pa_cons (pv 3) pa_nil))) (blkOk_by (own := [("low", 4), ("high", 5)]) (N := ["shelf", "thing", "least", "greatest", "low", "high"]) (sc := defScope s_is_doing) (by decide +kernel)) (fun _ _ _ _ _ => (pg_tup rfl (pgs_cons (pg_name (i := 4) sc_is_doing.nd rfl (.inl rfl)) (pgs_cons (pg_name (i := 5) sc_is_doing.nd rfl (.inl rfl)) pgs_nil)))) (fun _ _ _ _ _ => pts_nil) (fun _ _ _ _ _ => (pe_cmpR op_le (pv 4) (pv 5) (nomark _)))) pa_nil)))))))), ?_⟩
    refine ⟨v, rfl, v, _, rfl, hv, isShelf_ok sh, fun H1 s1 => ?_⟩
    refine ⟨u, rfl, u, d, _, rfl, Dpm s1 hd, _, rfl, ?_⟩
    cases e : tupOf d 2 with
    | false =>
      have ef : isDoing room ls d = false := by
        unfold isDoing
        split
        · simp [tupOf] at e
        · rfl
      rw [ef] at q
      exact iteT (q H1 s1)
    | true =>
      refine iteF ?_
      obtain ⟨da, db, rfl⟩ := tupOf2 e
      obtain ⟨a, x, y, rfl, sq, h1, h2⟩ := dp_two (Dpm s1 hd)
      refine ⟨.ref a, rfl, a, _, rfl, sq, rfl, _, _, rfl, _, [], rfl, rfl, ?_⟩
      refine ⟨v, rfl, x, rfl, v, x, room, ls, da, rfl, Dpm s1 hv, sh, h1, fun H2 s2 => ⟨_, rfl, ?_⟩⟩
      cases ea : isStand room ls da with
      | false =>
        have ef : isDoing room ls (.tuple [da, db]) = false := by
          unfold isDoing
          split
          · rename_i z; cases z
            rw [ea]; rfl
          · rfl
        rw [ef] at q
        exact iteT (q H2 (s1.trans s2))
      | true =>
        refine iteF ⟨v, rfl, y, rfl, v, y, room, ls, db, rfl, Dpm (s1.trans s2) hv, sh, Dpm s2 h2, fun H3 s3 => ⟨_, rfl, ?_⟩⟩
        have s13 := (s1.trans s2).trans s3
        have s23 := s2.trans s3
        cases eb : isStand room ls db with
        | false =>
          have ef : isDoing room ls (.tuple [da, db]) = false := by
            unfold isDoing
            split
            · rename_i z; cases z
              rw [eb]; split <;> rfl
            · rfl
          rw [ef] at q
          exact iteT (q H3 s13)
        | true =>
          refine iteF ?_
          obtain ⟨ns, rfl, ln⟩ := isStand_ints ea
          obtain ⟨ms, rfl, lm⟩ := isStand_ints eb
          have q : RB H Q (if isStand room ls (tI ns) = true then (if isStand room ls (tI ms) = true then allLe (iD ns) (iD ms) else false) else false) := q
          rw [if_pos ea, if_pos eb, allLe_ints] at q
          obtain ⟨b, rfl, sb⟩ := dp_tI (Dpm s23 h1)
          obtain ⟨c, rfl, sc⟩ := dp_tI (Dpm s23 h2)
          have n8 := sh.n8
          refine ⟨.ref b, rfl, .ref c, rfl, b, c, _, _, rfl, sb, sc, fun D nD => ?_⟩
          refine lc_it (walk_2 (n := ls.length) (xs := iV ns) (ys := iV ms) (by rw [iV_len, iV_len]; omega)) (fun i H' => Same H3 H' ∧ H' D = some (.lst (((List.zipWith (fun a b => decide (a ≤ b)) ns ms).take i).map V.bl))) ⟨same_new nD, by rw [upd_same]; rfl⟩ (fun i H' _ p => ⟨seqT_mono p.1 sb, seqT_mono p.1 sc⟩) (fun i x H' H2' hi p yy => ?_) (fun H' p => ?_)
          · obtain ⟨Tt, x, z, rfl, nT, rfl, hx, hz⟩ := yy
            have hn : ns[i]? = some ns[i] := List.getElem?_eq_getElem (by omega)
            have hm : ms[i]? = some ms[i] := List.getElem?_eq_getElem (by omega)
            have ex : x = .int ns[i] := by
              rw [iV_get hn] at hx
              exact (Option.some.inj hx).symm
            have ez : z = .int ms[i] := by
              rw [iV_get hm] at hz
              exact (Option.some.inj hz).symm
            subst ex ez
            refine ⟨Tt, _, rfl, .inl (.inl upd_same), rfl, _, _, rfl, _, [], rfl, rfl, rfl, _, rfl, _, rfl, _, _, rfl, rfl, ?_⟩
            have hD : upd H' Tt (.tup [.int ns[i], .int ms[i]]) D = some (.lst (((List.zipWith (fun a b => decide (a ≤ b)) ns ms).take i).map V.bl)) := by
              rw [upd_ne (ne_of_none p.2 nT)]
              exact p.2
            refine ⟨_, hD, ?_, fun b o hb => ?_, ?_⟩
            · rw [List.length_map, List.length_take]
              exact small1000 (by omega)
            · rw [upd_ne (ne_of_none hb nD)]
              exact same_new nT _ _ (p.1 b o hb)
            · rw [upd_same, List.take_add_one, zip_all ns ms i _ _ hn hm, List.map_append]
              rfl
          · refine ⟨D, _, rfl, .inl (.inl ?_), q H' (s13.trans p.1)⟩
            rw [p.2, List.take_of_length_le (by rw [List.length_zipWith]; omega)]
def sp_need_doing (K : PySem.W.Frag) : Sp := fun vs H Q _ => ∃ v u room ls d, vs = [v, u] ∧ Dp K H v (shD room ls) ∧ ShOk room ls ∧ Dp K H u d ∧ isDoing room ls d = true ∧ ∀ H', Same H H' → Q .non H'
theorem ok_need_doing (T : Tx K mg) : FnOk P w K mg base CX0 8 T.f_need_doing T.fd_need_doing ["shelf", "thing"] (sp_need_doing K) := by
  have G_is_doing := ok_is_doing (P := P) (w := w) (base := base) T
  refine T.F_need_doing.ok sc_need_doing (fun vs H Q E h => ?_) (fun cdv A outer s H vs Q E hr h => ?_)
  · obtain ⟨v, u, _, _, d, rfl, _⟩ := h
    rfl
  · obtain ⟨v, u, room, ls, d, rfl, hs, sh, hd, e, q⟩ := h
    refine ⟨_, (pss_one (ps_if (pt_not (pt_val (pe_call (G_is_doing.mono (by first | decide | omega)) hr (by rfl) T.g_is_doing T.F_is_doing.kp T.b_is_doing .nil pass0 (pa_cons (pv 0) (pa_cons (pv 1) pa_nil))))) (pss_one ps_never) pss_nil)), ?_⟩
    refine ⟨v, rfl, u, rfl, v, u, room, ls, d, rfl, hs, sh, hd, fun H' sm => ⟨_, rfl, ?_⟩⟩
    rw [e]
    exact iteF (q H' sm)
end PS

namespace PS
open PySem PySem.Spec PyProof.Rows L2
variable {P : Program} {w : World} {K : PySem.W.Frag} {mg : Str → Option Value} {base : Heap}
/-! ### the deck -/
def Dk (k : Addr) (H : Hp) (n : Nat) : Prop := ∃ a b c : Int, H k = some (.lst [.int a, .int b, .int c]) ∧ 0 ≤ b ∧ b < 2147483579 ∧ 0 ≤ c ∧ c + (n : Int) ≤ 1073741824
theorem Dk.le {k : Addr} {H : Hp} {n m : Nat} (h : Dk k H n) (e : m ≤ n) : Dk k H m := by
  obtain ⟨a, b, c, h1, h2, h3, h4, h5⟩ := h
  exact ⟨a, b, c, h1, h2, h3, h4, by omega⟩
theorem Dk.lst {k : Addr} {H : Hp} {n : Nat} (h : Dk k H n) : ∃ l, H k = some (.lst l) := by
  obtain ⟨a, b, c, h1, _⟩ := h
  exact ⟨_, h1⟩
theorem Dk.same {k : Addr} {H H' : Hp} {n : Nat} (h : Dk k H n) (s : Same H H') : Dk k H' n := by
  obtain ⟨a, b, c, h1, h2⟩ := h
  exact ⟨a, b, c, s _ _ h1, h2⟩
theorem Dk.ne {k : Addr} {H : Hp} {n : Nat} (h : Dk k H n) {p : Addr} (np : H p = none) : p ≠ k := by
  obtain ⟨a, b, c, h1, _⟩ := h
  exact (ne_of_none h1 np).symm
theorem fmod_in {a b : Int} (h : 0 < b) : 0 ≤ a.fmod b ∧ a.fmod b < b := ⟨Int.fmod_nonneg_of_pos a h, Int.fmod_lt_of_pos a h⟩
def sp_deck (K : PySem.W.Frag) : Sp := fun vs H Q _ => ∃ c t : Int, vs = [.int c, .int t] ∧ 0 ≤ t ∧ t ≤ 1000 ∧ ∀ p H', Same H H' → H p = none → Dk p H' 1000000 → Q (.ref p) H'
theorem ok_law_deck (T : Tx K mg) : FnOk P w K mg base CX0 1 T.f_law_deck T.fd_law_deck ["cell", "turn"] (sp_deck K) := by
  refine T.F_law_deck.ok sc_law_deck (fun vs H Q E h => ?_) (fun cdv A outer s H vs Q E hr h => ?_)
  · obtain ⟨c, t, rfl, _⟩ := h
    rfl
  · obtain ⟨c, t, rfl, t0, t1, q⟩ := h
    refine ⟨_, (pss_cons (ps_if (pt_cmpR op_ge (pv 0) (pe_op op_pow pe_int pe_int) (nomark _)) (pss_one (ps_ret (pe_lst (pa_cons (pe_op op_sub (pv 0) (pe_op op_pow pe_int pe_int)) (pa_cons (pe_op op_modN (pv 0) pe_int) (pa_cons (pv 1) pa_nil)))))) pss_nil)
      (pss_one (ps_ret (pe_lst (pa_cons pe_int (pa_cons (pe_op op_modN (pv 0) pe_int) (pa_cons (pv 1) pa_nil))))))), ?_⟩
    have m := fmod_in (a := c) (b := 2147483579) (by decide)
    have fin : ∀ (z : Int) (p : Addr), H p = none → Q (.ref p) (upd H p (.lst [.int z, .int (c.fmod 2147483579), .int t])) := fun z p np =>
      q p _ (same_new np) np ⟨z, _, t, upd_same, m.1, m.2, t0, by omega⟩
    refine ⟨_, rfl, _, _, rfl, rfl, ⟨by decide, by decide, by decide⟩, _, _, rfl, rfl, _, rfl, ite2 (fun _ => ?_) (fun _ => ?_)⟩
    · exact ⟨_, rfl, _, _, rfl, rfl, ⟨by decide, by decide, by decide⟩, _, _, rfl, rfl, _, rfl, _, _, rfl, rfl, (show (2147483579 : Int) ≠ 0 by decide), _, rfl, by show 3 ≤ sizeLine; decide, fun p np => fin _ p np⟩
    · exact ⟨_, rfl, _, _, rfl, rfl, (show (2147483579 : Int) ≠ 0 by decide), _, rfl, by show 3 ≤ sizeLine; decide, fun p np => fin _ p np⟩
def sp_pick (K : PySem.W.Frag) : Sp := fun vs H Q _ => ∃ (k : Addr) (m : Int) (n : Nat), vs = [.ref k, .int m] ∧ 0 < m ∧ m < 1000000 ∧ Dk k H (n + 1) ∧ ∀ r H', 0 ≤ r → r < m → Dk k H' n → Same (Off k H) (Off k H') → Q (.int r) H'
theorem off_upd {k : Addr} {H : Hp} {o : HO} : Off k (upd H k o) = Off k H := by
  funext b
  unfold Off
  split
  · rfl
  · rename_i n
    rw [upd_ne n]
theorem ok_law_pick (T : Tx K mg) : FnOk P w K mg base CX0 1 T.f_law_pick T.fd_law_pick ["deck", "size"] (sp_pick K) := by
  refine T.F_law_pick.ok sc_law_pick (fun vs H Q E h => ?_) (fun cdv A outer s H vs Q E hr h => ?_)
  · obtain ⟨k, m, n, rfl, _⟩ := h
    rfl
  · obtain ⟨k, m, n, rfl, m0, m1, ⟨a, b, c, hk, b0, b1, c0, c1⟩, q⟩ := h
    refine ⟨_, (pss_cons (ps_if (pt_cmpR op_gt (pe_ix ix_list (pv 0) pe_int (fun _ _ => rfl)) pe_int (nomark _)) (pss_cons (ps_set (i := 2) sc_law_pick.nd rfl (.inl rfl) (pe_op op_modN (pe_ix ix_list (pv 0) pe_int (fun _ _ => rfl)) (pv 1)))
      (pss_cons (ps_asg (pe_op op_fdivN (pe_ix ix_list (pv 0) pe_int (fun _ _ => rfl)) (pv 1)) (pg_sub (pv 0) pe_int set_list))
      (pss_one (ps_ret (pv 2))))) pss_nil)
      (pss_cons (ps_asg (pe_op op_add (pe_ix ix_list (pv 0) pe_int (fun _ _ => rfl)) pe_int) (pg_sub (pv 0) pe_int set_list))
      (pss_cons (ps_set (i := 3) sc_law_pick.nd rfl (.inl rfl) (pe_op op_modN (pe_op op_pow (pe_op op_add (pe_ix ix_list (pv 0) pe_int (fun _ _ => rfl)) (pe_op op_mul pe_int (pe_ix ix_list (pv 0) pe_int (fun _ _ => rfl)))) pe_int) pe_int))
      (pss_cons (ps_set (i := 2) sc_law_pick.nd rfl (.inl rfl) (pe_op op_fdivN (pe_op op_modN (pe_op op_pow (pe_op op_add (pv 3) (pe_op op_mul pe_int (pe_ix ix_list (pv 0) pe_int (fun _ _ => rfl)))) pe_int) pe_int) pe_int))
      (pss_one (ps_ret (pe_op op_modN (pv 2) (pv 1)))))))), ?_⟩
    refine ⟨.ref k, rfl, k, _, 0, _, rfl, rfl, .inl (.inl hk), atI_nat (j := 0) rfl, _, _, rfl, rfl, _, rfl, ite2 (fun _ => ?_) (fun _ => ?_)⟩
    · refine ⟨.ref k, rfl, k, _, 0, _, rfl, rfl, .inl (.inl hk), atI_nat (j := 0) rfl, _, rfl, _, _, rfl, rfl, by omega, ?_⟩
      refine ⟨.ref k, rfl, k, _, 0, _, rfl, rfl, .inl (.inl hk), atI_nat (j := 0) rfl, _, rfl, _, _, rfl, rfl, ⟨by omega, by omega⟩, ?_⟩
      refine ⟨.ref k, rfl, k, _, 0, 0, rfl, rfl, hk, rfl, ?_⟩
      refine ⟨_, rfl, ?_⟩
      have mm := fmod_in (a := a) m0
      exact q _ _ mm.1 mm.2 ⟨_, b, c, upd_same, b0, b1, c0, by omega⟩ (by rw [off_upd]; exact Same.refl _)
    · refine ⟨.ref k, rfl, k, _, 2, _, rfl, rfl, .inl (.inl hk), atI_nat (j := 2) rfl, _, _, rfl, rfl, ?_⟩
      refine ⟨.ref k, rfl, k, _, 2, 2, rfl, rfl, hk, rfl, ?_⟩
      have hk1 : upd H k (.lst ([V.int a, V.int b, V.int c].set 2 (V.int (c + 1)))) k = some (.lst [.int a, .int b, .int (c + 1)]) := upd_same
      refine ⟨.ref k, rfl, k, _, 1, _, rfl, rfl, .inl (.inl hk1), atI_nat (j := 1) rfl, .ref k, rfl, k, _, 2, _, rfl, rfl, .inl (.inl hk1), atI_nat (j := 2) rfl, _, _, rfl, rfl, .inl ⟨by decide, by decide⟩, _, _, rfl, rfl, _, _, rfl, rfl, ⟨by decide, by decide, by omega⟩, _, _, rfl, rfl, (show (2147483647 : Int) ≠ 0 by decide), ?_⟩
      have m2 := fmod_in (a := (b + 15485867 * (c + 1)) ^ (5 : Int).toNat) (b := 2147483647) (by decide)
      refine ⟨_, rfl, .ref k, rfl, k, _, 2, _, rfl, rfl, .inl (.inl hk1), atI_nat (j := 2) rfl, _, _, rfl, rfl, .inl ⟨by decide, by decide⟩, _, _, rfl, rfl, _, _, rfl, rfl, ⟨by decide, by decide, by omega⟩, _, _, rfl, rfl, (show (2147483629 : Int) ≠ 0 by decide), _, _, rfl, rfl, (show (32 : Int) ≠ 0 ∧ (32 : Int).natAbs < 1073741824 by decide), ?_⟩
      refine ⟨_, rfl, _, rfl, _, _, rfl, rfl, by omega, ?_⟩
      have mm := fmod_in (a := (((((b + 15485867 * (c + 1)) ^ (5 : Int).toNat).fmod 2147483647 + 7919 * (c + 1)) ^ (3 : Int).toNat).fmod 2147483629).fdiv 32) m0
      exact q _ _ mm.1 mm.2 ⟨a, b, c + 1, hk1, b0, b1, by omega, by omega⟩ (by rw [off_upd]; exact Same.refl _)
def sp_one (K : PySem.W.Frag) : Sp := fun vs H Q _ => ∃ (k a : Addr) (xs : List V) (n : Nat), vs = [.ref k, .ref a] ∧ SqL K (Off k H) a xs ∧ 0 < xs.length ∧ xs.length < 1000 ∧ Dk k H (n + 1) ∧ ∀ x H', x ∈ xs → Dk k H' n → Same (Off k H) (Off k H') → Q x H'
theorem ok_law_one (T : Tx K mg) : FnOk P w K mg base CX0 2 T.f_law_one T.fd_law_one ["deck", "some"] (sp_one K) := by
  have G_law_pick := ok_law_pick (P := P) (w := w) (base := base) T
  refine T.F_law_one.ok sc_law_one (fun vs H Q E h => ?_) (fun cdv A outer s H vs Q E hr h => ?_)
  · obtain ⟨k, a, xs, n, rfl, _⟩ := h
    rfl
  · obtain ⟨k, a, xs, n, rfl, hs, l0, l1, dk, q⟩ := h
    refine ⟨_, (pss_one (ps_ret (pe_ix ix_list (pv 1) (pe_call (G_law_pick.mono (by first | decide | omega)) hr (by rfl) T.g_law_pick T.F_law_pick.kp T.b_law_pick .nil pass0 (pa_cons (pv 0) (pa_cons (pe_callB call_len_seq (by rfl) T.n_len (by decide +kernel) (pa_cons (pv 1) pa_nil)) pa_nil))) (fun _ _ => rfl)))), ?_⟩
    refine ⟨.ref a, rfl, .ref k, rfl, .ref a, rfl, a, xs, rfl, .inl ((off_same k H).seq hs), k, _, n, rfl, by omega, by omega, dk, fun r H' r0 r1 dk' sm => ?_⟩
    have hr' : r.toNat < xs.length := by omega
    have hx : xs[r.toNat]? = some xs[r.toNat] := List.getElem?_eq_getElem hr'
    exact ⟨a, xs, r, _, rfl, rfl, ((off_same k H').seq (sm.seq hs)), at_of (j := r.toNat) (by omega) hx, q _ _ (List.mem_of_getElem? hx) dk' sm⟩
end PS

namespace PS
open PySem PySem.Spec PyProof.Rows L2
variable {P : Program} {w : World} {K : PySem.W.Frag} {mg : Str → Option Value} {base : Heap}
theorem off_new {k p : Addr} {H : Hp} {o : HO} (np : H p = none) : Same (Off k H) (Off k (upd H p o)) := off_mono (same_new np)
theorem off_free {k p : Addr} {H : Hp} (np : H p = none) : Off k H p = none := by
  unfold Off
  split
  · rfl
  · exact np
theorem off_up {k p : Addr} {H : Hp} {o : HO} (n : p ≠ k) : Off k (upd H p o) p = some o := off_at n upd_same
theorem off_keep {k D : Addr} {H0 H : Hp} {o : HO} (s : Same (Off k H0) (Off k H)) (nD : H0 D = none) : Same (Off k H0) (Off k (upd H D o)) := fun b x e => by
  have nb : b ≠ D := ne_of_none e (off_free nD)
  have h := s b x e
  unfold Off at h ⊢
  split at h
  · cases h
  · rename_i nk
    rw [if_neg nk, upd_ne nb]
    exact h
/-! ### shelves -/
def sp_shelf (K : PySem.W.Frag) : Sp := fun vs H Q _ => ∃ (k : Addr) (m pl : Int) (n : Nat), vs = [.ref k, .int m, .int pl] ∧ 1 ≤ m ∧ m ≤ 8 ∧ 0 ≤ pl ∧ pl ≤ 400 ∧ Dk k H (n + 20) ∧
  ∀ v H' room ls, ShOk room ls → (ls.length : Int) ≤ m → room - ls.sum ≤ pl → Dk k H' n → Same (Off k H) (Off k H') → Dp K (Off k H') v (shD room ls) → Q v H'
theorem ok_law_shelf (T : Tx K mg) : FnOk P w K mg base CX0 3 T.f_law_shelf T.fd_law_shelf ["deck", "at_most", "play"] (sp_shelf K) := by
  have G_law_pick := ok_law_pick (P := P) (w := w) (base := base) T
  have G_law_one := ok_law_one (P := P) (w := w) (base := base) T
  refine T.F_law_shelf.ok sc_law_shelf (fun vs H Q E h => ?_) (fun cdv A outer s H vs Q E hr h => ?_)
  · obtain ⟨k, m, pl, n, rfl, _⟩ := h
    rfl
  · obtain ⟨k, m, pl, n, rfl, m1, m8, p0, p4, dk, q⟩ := h
    refine ⟨_, (pss_cons (ps_set (i := 3) sc_law_shelf.nd rfl (.inl rfl) (pe_callTy call_tuple_of (by rfl) T.n_tuple (by decide +kernel) (pa_cons (pe_lc (own := [("k", 4)]) (g := gName 4) (tt := tYes) rfl sc_law_shelf.nd (pi_range1 (by rfl) T.n_range (pa_cons (pe_op op_add pe_int (pe_call (G_law_pick.mono (by first | decide | omega)) hr (by rfl) T.g_law_pick T.F_law_pick.kp T.b_law_pick .nil pass0 (pa_cons (pv 0) (pa_cons (pv 1) pa_nil)))) pa_nil)) (blkOk_by (own := [("k", 4)]) (N := ["deck", "at_most", "play", "blocks", "k"]) (sc := defScope s_law_shelf) (by decide +kernel)) (fun _ _ _ _ _ => (pg_name (i := 4) sc_law_shelf.nd rfl (.inl rfl))) (fun _ _ _ _ _ => pts_nil) (fun _ _ _ _ _ => (pe_op op_add pe_int (pe_call (G_law_pick.mono (by first | decide | omega)) hr (by rfl) T.g_law_pick T.F_law_pick.kp T.b_law_pick .nil pass0 (pa_cons (pv 0) (pa_cons (pe_call (G_law_one.mono (by first | decide | omega)) hr (by rfl) T.g_law_one T.F_law_one.kp T.b_law_one .nil pass0 (pa_cons (pv 0) (pa_cons (pe_lst (pa_cons pe_int (pa_cons pe_int pa_nil))) pa_nil))) pa_nil)))))) pa_nil)))
      (pss_one (ps_ret (pe_tup (pa_cons (pe_op op_add (pe_callB (cr_sumT rfl) (by rfl) T.n_sum (by decide +kernel) (pa_cons (pv 3) pa_nil)) (pe_call (G_law_pick.mono (by first | decide | omega)) hr (by rfl) T.g_law_pick T.F_law_pick.kp T.b_law_pick .nil pass0 (pa_cons (pv 0) (pa_cons (pe_op op_add (pv 2) pe_int) pa_nil)))) (pa_cons (pv 3) pa_nil)))))), ?_⟩
    refine ⟨.ref k, rfl, .int m, rfl, k, m, n + 19, rfl, by omega, by omega, dk, fun r H1 r0 r1 dk1 s1 => ?_⟩
    refine ⟨_, _, rfl, rfl, _, rfl, by omega, by omega, fun D nD => ?_⟩
    refine lc_range (lo := 0) (n := (1 + r).toNat) (fun i H' => Same (Off k H1) (Off k H') ∧ Dk k H' (n + 19 - 2 * i) ∧ ∃ ns : List Int, H' D = some (.lst (iV ns)) ∧ ns.length = i ∧ ∀ l ∈ ns, 1 ≤ l ∧ l ≤ 50)
      ⟨off_new nD, dk1.same (same_new nD), [], upd_same, rfl, by simp⟩ (fun i H' hi p => ?_) (fun H' p => ?_)
    · obtain ⟨s2, dk2, ns, hD, hl, hb⟩ := p
      refine ⟨rfl, .ref k, rfl, .ref k, rfl, by show 2 ≤ sizeLine; decide, fun z nz => ?_⟩
      have nzk := dk2.ne nz
      refine ⟨k, z, [.int 3, .int 50], n + 17 - 2 * i + 1, rfl, .inl (.inl (off_up nzk)), by decide, by decide, (dk2.same (same_new nz)).le (by omega), fun x H3 hx dk3 s3 => ?_⟩
      have hx' : x = .int 3 ∨ x = .int 50 := by simpa using hx
      have fin : ∀ c : Int, 0 < c → c ≤ 50 → sp_pick K [.ref k, .int c] H3 (fun y H4 => ∃ i1 j1, (V.int 1) = .int i1 ∧ y = .int j1 ∧ ∃ acc, H4 D = some (.lst acc) ∧ acc.length < sizeLine ∧ Same (Off k H1) (Off k (upd H4 D (.lst (acc ++ [.int (i1 + j1)])))) ∧ Dk k (upd H4 D (.lst (acc ++ [.int (i1 + j1)]))) (n + 19 - 2 * (i + 1)) ∧ ∃ ns : List Int, upd H4 D (.lst (acc ++ [.int (i1 + j1)])) D = some (.lst (iV ns)) ∧ ns.length = i + 1 ∧ ∀ l ∈ ns, 1 ≤ l ∧ l ≤ 50) E0 := by
        intro c c0 c1
        refine ⟨k, c, n + 17 - 2 * i, rfl, c0, by omega, dk3, fun t H4 t0 t1 dk4 s4 => ?_⟩
        have nDk : D ≠ k := dk1.ne nD
        have sA : Same (Off k H') (Off k H4) := ((off_new nz).trans s3).trans s4
        have hD4 : H4 D = some (.lst (iV ns)) := off_back sA nDk hD
        have s5 : Same (Off k H1) (Off k H4) := s2.trans sA
        refine ⟨1, t, rfl, rfl, _, hD4, ?_, off_keep s5 nD, ?_, ns ++ [1 + t], ?_, ?_, ?_⟩
        · rw [List.length_map]
          exact small1000 (by omega)
        · obtain ⟨a, b, c, h1, h2⟩ := dk4.le (show n + 19 - 2 * (i + 1) ≤ n + 17 - 2 * i by omega)
          exact ⟨a, b, c, by rw [upd_ne nDk.symm]; exact h1, h2⟩
        · rw [upd_same]
          simp
        · rw [List.length_append, hl]
          rfl
        · intro l hl'
          rcases List.mem_append.mp hl' with z | z
          · exact hb l z
          · have : l = 1 + t := by simpa using z
            omega
      rcases hx' with rfl | rfl
      · exact fin 3 (by decide) (by decide)
      · exact fin 50 (by decide) (by decide)
    · obtain ⟨s2, dk2, ns, hD, hl, hb⟩ := p
      refine ⟨D, _, rfl, .inl ⟨.inl (.inl hD), fun t nt => ?_⟩⟩
      have hT : upd H' t (.tup (iV ns)) t = some (.tup (iV ns)) := upd_same
      have ntk := dk2.ne nt
      refine ⟨.ref t, rfl, t, ns, rfl, .inl (.inl hT), .ref k, rfl, _, rfl, _, _, rfl, rfl, k, pl + 1, n, rfl, by omega, by omega, (dk2.same (same_new nt)).le (by omega), fun r2 H4 r20 r21 dk4 s4 => ?_⟩
      refine ⟨_, _, rfl, rfl, .ref t, rfl, by show 2 ≤ sizeLine; decide, fun z nz => ?_⟩
      have h5 : Off k H4 t = some (.tup (iV ns)) := s4 _ _ (off_up ntk)
      have nzk := dk4.ne nz
      refine q (.ref z) _ (ns.sum + r2) ns ⟨by omega, by omega, hb, by omega, by omega⟩ (by omega) (by omega) (dk4.same (same_new nz)) (((s1.trans s2).trans (off_new nt)).trans (s4.trans (off_new nz))) ?_
      refine .tup (.inl (.inl (off_up nzk))) (.cons (.int _) (.cons (tI_dp (.inl (.inl ?_))) .nil))
      exact off_new nz _ _ h5
def sp_play (K : PySem.W.Frag) : Sp := fun vs H Q _ => ∃ v room ls, vs = [v] ∧ Dp K H v (shD room ls) ∧ Q (.int (room - ls.sum)) H
theorem ok_law_play (T : Tx K mg) : FnOk P w K mg base CX0 1 T.f_law_play T.fd_law_play ["shelf"] (sp_play K) := by
  refine T.F_law_play.ok sc_law_play (fun vs H Q E h => ?_) (fun cdv A outer s H vs Q E hr h => ?_)
  · obtain ⟨v, room, ls, rfl, _⟩ := h
    rfl
  · obtain ⟨v, room, ls, rfl, hv, q⟩ := h
    obtain ⟨a, b, rfl, sa, sb⟩ := dp_shelf hv
    refine ⟨_, (pss_one (ps_ret (pe_op op_sub (pe_ix ix_tup (pv 0) pe_int (fun _ _ => rfl)) (pe_callB (cr_sumT rfl) (by rfl) T.n_sum (by decide +kernel) (pa_cons (pe_ix ix_tup (pv 0) pe_int (fun _ _ => rfl)) pa_nil))))), ?_⟩
    exact ⟨.ref a, rfl, a, _, 0, _, rfl, rfl, sa, atI_nat (j := 0) rfl, .ref a, rfl, a, _, 1, _, rfl, rfl, sa, atI_nat (j := 1) rfl, b, ls, rfl, sb, _, _, rfl, rfl, q⟩
/-! ### stands -/
def sp_stand_of (K : PySem.W.Frag) : Sp := fun vs H Q _ => ∃ v a room ls y, vs = [v, .ref a] ∧ Dp K H v (shD room ls) ∧ ls.length ≤ 8 ∧ (SqL K H a (iV ((List.range ls.length).map y)) ∨ SqT K H a (iV ((List.range ls.length).map y))) ∧ RD K H Q (tI (stL ls y))
theorem stL_take {ls : List Int} {y : Nat → Int} {i : Nat} (h : i < ls.length) : (stL ls y).take (i + 1) = (stL ls y).take i ++ [y i + pre ls i] := by
  rw [List.take_add_one, stL_get h]
  rfl
theorem stand_of_any (b : Bool) (T : Tx K mg) : FnOk P w K mg base CX0 1 T.f_law_stand_of T.fd_law_stand_of ["shelf", "places"] (fun vs H Q _ => ∃ v a room ls y, vs = [v, .ref a] ∧ Dp K H v (shD room ls) ∧ ls.length ≤ 8 ∧ SqK b K H a (iV ((List.range ls.length).map y)) ∧ RD K H Q (tI (stL ls y))) := by
  refine T.F_law_stand_of.ok sc_law_stand_of (fun vs H Q E h => ?_) (fun cdv A outer s H vs Q E hr h => ?_)
  · obtain ⟨v, a, room, ls, y, rfl, _⟩ := h
    rfl
  · obtain ⟨v, a, room, ls, y, rfl, hv, n8, ha, q⟩ := h
    obtain ⟨c, d, rfl, sc, sd⟩ := dp_shelf hv
    refine ⟨_, (pss_cons (ps_par (i := 2) (j := 3) (by rfl) sc_law_stand_of.nd rfl rfl (by decide) rfl rfl (pa_cons (pe_lst pa_nil) (pa_cons pe_int pa_nil)) (by rfl))
      (pss_cons (ps_for PassesOwn.never rfl (pi_zip2 b false (by rfl) T.n_zip (pa_cons (pv 1) (pa_cons (pe_ix ix_tup (pv 0) pe_int (fun _ _ => rfl)) pa_nil))) (pg_tup rfl (pgs_cons (pg_name (i := 4) sc_law_stand_of.nd rfl (.inl rfl)) (pgs_cons (pg_name (i := 5) sc_law_stand_of.nd rfl (.inl rfl)) pgs_nil)))
      (pss_cons (ps_expr (pe_bm PySem.F.plainAttrs_list PySem.F.slot_list_append PySem.F.type_list_append mt_append (pv 2) (pa_cons (pe_op op_add (pv 4) (pv 3)) pa_nil)))
      (pss_one (ps_set (i := 3) sc_law_stand_of.nd rfl (.inl rfl) (pe_op op_add (pv 3) (pv 5))))))
      (pss_one (ps_ret (pe_callTy call_tuple_of (by rfl) T.n_tuple (by decide +kernel) (pa_cons (pv 2) pa_nil)))))), ?_⟩
    refine ⟨Nat.zero_le _, fun l nl => ⟨_, _, rfl, ?_⟩⟩
    have s1 : Same H (upd H l (.lst [])) := same_new nl
    have ha1 : SqK b K (upd H l (.lst [])) a (iV ((List.range ls.length).map y)) := by
      cases b
      · exact seqT_mono s1 ha
      · exact s1.seq ha
    refine ⟨.ref a, rfl, .ref c, rfl, c, _, 1, _, rfl, rfl, seqT_mono s1 sc, atI_nat (j := 1) rfl, a, d, _, _, rfl, ha1, seqT_mono s1 sd, ?_⟩
    refine for_it (walk_2 (n := ls.length) (xs := iV ((List.range ls.length).map y)) (ys := iV ls) (by simp)) (fun i σ H' => Same H H' ∧ H' l = some (.lst (iV ((stL ls y).take i))) ∧ ∃ y4 y5, σ = [some (.ref c), some (.ref a), some (.ref l), some (.int (pre ls i)), y4, y5])
      ⟨s1, upd_same, none, none, by rw [pre_zero]; rfl⟩ (fun i σ H' _ p => ⟨?_, seqT_mono p.1 sd⟩) (fun i x σ H' H2 hi p yy => ?_) (fun σ H' p => ?_)
    · cases b
      · exact seqT_mono p.1 ha
      · exact p.1.seq ha
    · obtain ⟨s2, hl, y4, y5, rfl⟩ := p
      obtain ⟨Tt, x, z, rfl, nT, rfl, hx, hz⟩ := yy
      have s3 : Same H (upd H' Tt (.tup [x, z])) := s2.trans (same_new nT)
      have ex : x = .int (y i) := by
        rw [iV_get (v := y i) (by simp [hi])] at hx
        exact (Option.some.inj hx).symm
      have ez : z = .int ls[i] := by
        rw [iV_get (List.getElem?_eq_getElem hi)] at hz
        exact (Option.some.inj hz).symm
      subst ex ez
      have hl2 : upd H' Tt (.tup [.int (y i), .int ls[i]]) l = some (.lst (iV ((stL ls y).take i))) := by
        rw [upd_ne (ne_of_none hl nT)]
        exact hl
      refine ⟨Tt, _, rfl, .inl (.inl upd_same), rfl, _, _, rfl, _, [], rfl, rfl, ?_⟩
      refine ⟨.ref l, rfl, .inl ⟨rfl, _, .inl (.inl hl2)⟩, _, rfl, _, rfl, _, _, rfl, rfl, l, _, _, rfl, rfl, hl2, ?_, ?_⟩
      · rw [List.length_map, List.length_take]
        exact small1000 (by omega)
      · refine ⟨_, rfl, _, rfl, _, _, rfl, rfl, fun b o hb => ?_, ?_, some (.int (y i)), some (.int ls[i]), ?_⟩
        · rw [upd_ne (ne_of_none hb nl)]
          exact s3 b o hb
        · rw [upd_same, stL_take hi]
          simp
        · rw [pre_succ hi]
          rfl
    · obtain ⟨s2, hl, y4, y5, rfl⟩ := p
      rw [List.take_of_length_le (by rw [stL_len]; exact Nat.le_refl _)] at hl
      refine ⟨.ref l, rfl, l, _, rfl, .inl ⟨.inl (.inl hl), fun t nt => ?_⟩⟩
      exact q _ _ (s2.trans (same_new nt)) (tI_dp (.inl (.inl upd_same)))
end PS

namespace PS
open PySem PySem.Spec PyProof.Rows L2
variable {P : Program} {w : World} {K : PySem.W.Frag} {mg : Str → Option Value} {base : Heap}
theorem range_getD (ns : List Int) : (List.range ns.length).map (fun j => ns.getD j 0) = ns := by
  apply List.ext_getElem?
  intro j
  by_cases h : j < ns.length
  · simp [h]
  · rw [List.getElem?_eq_none (by simp; omega), List.getElem?_eq_none (by omega)]
theorem rise_sorted {ns : List Int} {pl : Int} (hs : ns.Pairwise (· ≤ ·)) (hb : ∀ x ∈ ns, 0 ≤ x ∧ x ≤ pl) : Rise ns.length pl (fun j => ns.getD j 0) where
  lo := fun j hj => by
    have := hb ns[j] (List.getElem_mem hj)
    simp [hj]; omega
  hi := fun j hj => by
    have := hb ns[j] (List.getElem_mem hj)
    simp [hj]; omega
  up := fun j hj => by
    have h1 : j < ns.length := by omega
    have := List.pairwise_iff_getElem.mp hs j (j + 1) h1 hj (by omega)
    simp [h1, hj]
    exact this
def sp_stand (K : PySem.W.Frag) : Sp := fun vs H Q _ => ∃ (k : Addr) (v : V) (room : Int) (ls : List Int) (n : Nat), vs = [.ref k, v] ∧ Dp K (Off k H) v (shD room ls) ∧ ShOk room ls ∧ Dk k H (n + 20) ∧
  ∀ u H' y, Rise ls.length (room - ls.sum) y → Dk k H' n → Same (Off k H) (Off k H') → Dp K (Off k H') u (tI (stL ls y)) → Q u H'
theorem ok_law_stand (T : Tx K mg) : FnOk P w K mg base CX0 3 T.f_law_stand T.fd_law_stand ["deck", "shelf"] (sp_stand K) := by
  have G_law_pick := ok_law_pick (P := P) (w := w) (base := base) T
  have G_law_one := ok_law_one (P := P) (w := w) (base := base) T
  have G_law_play := ok_law_play (P := P) (w := w) (base := base) T
  have G_law_stand_of := stand_of_any (P := P) (w := w) (base := base) true T
  refine T.F_law_stand.ok sc_law_stand (fun vs H Q E h => ?_) (fun cdv A outer s H vs Q E hr h => ?_)
  · obtain ⟨k, v, _, _, n, rfl, _⟩ := h
    rfl
  · obtain ⟨k, v, room, ls, n, rfl, hv, sh, dk, q⟩ := h
    have fin : ∀ (H' : Hp) (p : Addr) (ns : List Int), Same (Off k H) (Off k H') → Dk k H' n → p ≠ k → H' p = some (.lst (iV ns)) → ns.length = ls.length → ns.Pairwise (· ≤ ·) → (∀ x ∈ ns, 0 ≤ x ∧ x ≤ room - ls.sum) →
        ∃ v' a room' ls' y, [v, .ref p] = [v', V.ref a] ∧ Dp K H' v' (shD room' ls') ∧ ls'.length ≤ 8 ∧ SqK true K H' a (iV ((List.range ls'.length).map y)) ∧ RD K H' Q (tI (stL ls' y)) := by
      intro H' p ns sm dk' npk hp hl hs hb
      refine ⟨v, p, room, ls, fun j => ns.getD j 0, rfl, Dpm (sm.trans (off_same k H')) hv, sh.n8, ?_, fun u H3 s3 h3 => ?_⟩
      · rw [← hl, range_getD]
        exact .inl (.inl hp)
      · obtain ⟨l, hk⟩ := (dk'.same s3).lst
        have ri := rise_sorted hs hb
        rw [hl] at ri
        exact q u H3 _ ri (dk'.same s3) (sm.trans (off_mono s3)) (dp_off hk _ _ (noL_tI _) h3)
    obtain ⟨a, b, rfl, sa, sb⟩ := dp_shelf hv
    have pl0 := sh.lo
    have pl4 := sh.hi
    have n8 := sh.n8
    refine ⟨_, (pss_cons (ps_set (i := 2) sc_law_stand.nd rfl (.inr rfl) (pe_callB cr_sorted (by rfl) T.n_sorted (by decide +kernel) (pa_cons (pe_lc (own := [("long", 3)]) (g := gName 3) (tt := tYes) rfl sc_law_stand.nd (pi_tup (pe_ix ix_tup (pv 1) pe_int (fun _ _ => rfl))) (blkOk_by (own := [("long", 3)]) (N := ["deck", "shelf", "places", "long"]) (sc := defScope s_law_stand) (by decide +kernel)) (fun _ _ _ _ _ => (pg_name (i := 3) sc_law_stand.nd rfl (.inl rfl))) (fun _ _ _ _ _ => pts_nil) (fun _ _ _ _ _ => (pe_call (G_law_pick.mono (by first | decide | omega)) hr (by rfl) T.g_law_pick T.F_law_pick.kp T.b_law_pick .nil pass0 (pa_cons (pv 0) (pa_cons (pe_op op_add (pe_call (G_law_play.mono (by first | decide | omega)) hr (by rfl) T.g_law_play T.F_law_play.kp T.b_law_play .nil pass0 (pa_cons (pv 1) pa_nil)) pe_int) pa_nil))))) pa_nil)))
      (pss_cons (ps_if (pt_cmpR op_eq (pe_call (G_law_pick.mono (by first | decide | omega)) hr (by rfl) T.g_law_pick T.F_law_pick.kp T.b_law_pick .nil pass0 (pa_cons (pv 0) (pa_cons pe_int pa_nil))) pe_int (nomark _)) (pss_one (ps_set (i := 2) sc_law_stand.nd rfl (.inr rfl) (pe_callB cr_sorted (by rfl) T.n_sorted (by decide +kernel) (pa_cons (pe_lc (own := [("long", 3)]) (g := gName 3) (tt := tYes) rfl sc_law_stand.nd (pi_tup (pe_ix ix_tup (pv 1) pe_int (fun _ _ => rfl))) (blkOk_by (own := [("long", 3)]) (N := ["deck", "shelf", "places", "long"]) (sc := defScope s_law_stand) (by decide +kernel)) (fun _ _ _ _ _ => (pg_name (i := 3) sc_law_stand.nd rfl (.inl rfl))) (fun _ _ _ _ _ => pts_nil) (fun _ _ _ _ _ => (pe_call (G_law_one.mono (by first | decide | omega)) hr (by rfl) T.g_law_one T.F_law_one.kp T.b_law_one .nil pass0 (pa_cons (pv 0) (pa_cons (pv 2) pa_nil))))) pa_nil)))) pss_nil)
      (pss_one (ps_ret (pe_call (G_law_stand_of.mono (by first | decide | omega)) hr (by rfl) T.g_law_stand_of T.F_law_stand_of.kp T.b_law_stand_of .nil pass0 (pa_cons (pv 1) (pa_cons (pv 2) pa_nil))))))), ?_⟩
    refine ⟨.ref a, rfl, a, _, 1, _, rfl, rfl, seqT_mono (off_same k H) sa, atI_nat (j := 1) rfl, b, rfl, ⟨_, seqT_mono (off_same k H) sb⟩, fun D nD => ?_⟩
    have nDk : D ≠ k := dk.ne nD
    refine lc_tup (K := K) (a := b) (xs := iV ls) (fun i H' => Same (Off k H) (Off k H') ∧ Dk k H' (n + 20 - i) ∧ ∃ ns : List Int, H' D = some (.lst (iV ns)) ∧ ns.length = i ∧ ∀ x ∈ ns, 0 ≤ x ∧ x ≤ room - ls.sum)
      ⟨off_new nD, dk.same (same_new nD), [], upd_same, rfl, by simp⟩ (fun i H' _ p => seqT_mono (p.1.trans (off_same k H')) sb) (fun i x H' hx p => ?_) (fun H' p => ?_)
    · obtain ⟨s2, dk2, ns, hD, hl, hb⟩ := p
      have hi : i < ls.length := by
        have := (List.getElem?_eq_some_iff.mp hx).1
        rwa [iV_len] at this
      refine ⟨rfl, .ref k, rfl, .ref a, rfl, .ref a, room, ls, rfl, Dpm (s2.trans (off_same k H')) hv, _, _, rfl, rfl, k, _, n + 19 - i, rfl, by omega, by omega, dk2.le (by omega), fun r H4 r0 r1 dk4 s4 => ?_⟩
      have hD4 : H4 D = some (.lst (iV ns)) := off_back s4 nDk hD
      refine ⟨_, hD4, ?_, off_keep (s2.trans s4) nD, ?_, ns ++ [r], ?_, ?_, ?_⟩
      · rw [List.length_map]
        exact small1000 (by omega)
      · obtain ⟨a, b, c, h1, h2⟩ := dk4.le (show n + 20 - (i + 1) ≤ n + 19 - i by omega)
        exact ⟨a, b, c, by rw [upd_ne nDk.symm]; exact h1, h2⟩
      · rw [upd_same]
        simp
      · rw [List.length_append, hl]
        rfl
      · intro l hl'
        rcases List.mem_append.mp hl' with z | z
        · exact hb l z
        · have : l = r := by simpa using z
          omega
    · obtain ⟨s2, dk2, ns, hD, hl, hb⟩ := p
      rw [iV_len] at hl dk2
      refine ⟨D, ns, rfl, .inl (.inl hD), by omega, fun ns1 p1 perm1 sort1 np1 => ?_⟩
      have hl1 : ns1.length = ls.length := by rw [perm1.length_eq, hl]
      have hb1 : ∀ x ∈ ns1, 0 ≤ x ∧ x ≤ room - ls.sum := fun x hx => hb x (perm1.mem_iff.mp hx)
      have np1k : p1 ≠ k := dk2.ne np1
      refine ⟨.ref k, rfl, k, 3, n + 11, rfl, by decide, by decide, (dk2.same (same_new np1)).le (by omega), fun r H3 r0 r1 dk3 s3 => ?_⟩
      have hp1 : H3 p1 = some (.lst (iV ns1)) := off_back s3 np1k upd_same
      have s13 : Same (Off k H) (Off k H3) := (s2.trans (off_new np1)).trans s3
      refine ⟨rfl, _, rfl, ite2 (fun _ => ?_) (fun _ => ?_)⟩
      · have sa3 := seqT_mono (s13.trans (off_same k H3)) sa
        have sb3 := seqT_mono (s13.trans (off_same k H3)) sb
        refine ⟨.ref a, rfl, a, _, 1, _, rfl, rfl, sa3, atI_nat (j := 1) rfl, b, rfl, ⟨_, sb3⟩, fun D2 nD2 => ?_⟩
        have nD2k : D2 ≠ k := dk3.ne nD2
        have nDp : p1 ≠ D2 := ne_of_none hp1 nD2
        refine lc_tup (K := K) (a := b) (xs := iV ls) (fun i H' => Same (Off k H3) (Off k H') ∧ Dk k H' (n + 11 - i) ∧ ∃ ns : List Int, H' D2 = some (.lst (iV ns)) ∧ ns.length = i ∧ ∀ x ∈ ns, 0 ≤ x ∧ x ≤ room - ls.sum)
          ⟨off_new nD2, dk3.same (same_new nD2), [], upd_same, rfl, by simp⟩ (fun i H' _ p => seqT_mono ((s13.trans p.1).trans (off_same k H')) sb) (fun i x H' hx p => ?_) (fun H' p => ?_)
        · obtain ⟨s4, dk4, ns2, hD2, hl2, hb2⟩ := p
          have hi : i < ls.length := by
            have := (List.getElem?_eq_some_iff.mp hx).1
            rwa [iV_len] at this
          have hp4 : Off k H' p1 = some (.lst (iV ns1)) := s4 _ _ (off_at np1k hp1)
          refine ⟨rfl, .ref k, rfl, .ref p1, rfl, k, p1, _, n + 10 - i, rfl, .inl (.inl hp4), by rw [iV_len]; have := sh.n1; omega, by rw [iV_len]; omega, dk4.le (by omega), fun x H5 hx5 dk5 s5 => ?_⟩
          obtain ⟨r5, hr5, rfl⟩ := List.mem_map.mp hx5
          have hD5 : H5 D2 = some (.lst (iV ns2)) := off_back s5 nD2k hD2
          refine ⟨_, hD5, ?_, off_keep (s4.trans s5) nD2, ?_, ns2 ++ [r5], ?_, ?_, ?_⟩
          · rw [List.length_map]
            exact small1000 (by omega)
          · obtain ⟨a, b, c, h1, h2⟩ := dk5.le (show n + 11 - (i + 1) ≤ n + 10 - i by omega)
            exact ⟨a, b, c, by rw [upd_ne nD2k.symm]; exact h1, h2⟩
          · rw [upd_same]
            simp
          · rw [List.length_append, hl2]
            rfl
          · intro l hl'
            rcases List.mem_append.mp hl' with z | z
            · exact hb2 l z
            · have : l = r5 := by simpa using z
              rw [this]
              exact hb1 r5 hr5
        · obtain ⟨s4, dk4, ns2, hD2, hl2, hb2⟩ := p
          rw [iV_len] at hl2 dk4
          refine ⟨D2, ns2, rfl, .inl (.inl hD2), by omega, fun ns3 p3 perm3 sort3 np3 => ?_⟩
          refine ⟨.ref a, rfl, .ref p3, rfl, ?_⟩
          exact fin _ p3 ns3 ((s13.trans s4).trans (off_new np3)) ((dk4.same (same_new np3)).le (by omega)) (dk4.ne np3) upd_same (by rw [perm3.length_eq, hl2]) sort3 (fun x hx => hb2 x (perm3.mem_iff.mp hx))
      · refine ⟨.ref a, rfl, .ref p1, rfl, ?_⟩
        exact fin _ p1 ns1 s13 (dk3.le (by omega)) np1k hp1 hl1 sort1 hb1
/-! ### pushes and rows -/
def sp_push (K : PySem.W.Frag) : Sp := fun vs H Q _ => ∃ (k : Addr) (v : V) (room : Int) (ls : List Int) (n : Nat), vs = [.ref k, v] ∧ Dp K (Off k H) v (shD room ls) ∧ ShOk room ls ∧ Dk k H (n + 3) ∧
  ∀ u H' p, PuOk ls.length (room - ls.sum) p → Dk k H' n → Same (Off k H) (Off k H') → Dp K (Off k H') u (puD ls p) → Q u H'
theorem ok_law_push (T : Tx K mg) : FnOk P w K mg base CX0 3 T.f_law_push T.fd_law_push ["deck", "shelf"] (sp_push K) := by
  have G_law_pick := ok_law_pick (P := P) (w := w) (base := base) T
  have G_law_one := ok_law_one (P := P) (w := w) (base := base) T
  have G_law_play := ok_law_play (P := P) (w := w) (base := base) T
  refine T.F_law_push.ok sc_law_push (fun vs H Q E h => ?_) (fun cdv A outer s H vs Q E hr h => ?_)
  · obtain ⟨k, v, _, _, n, rfl, _⟩ := h
    rfl
  · obtain ⟨k, v, room, ls, n, rfl, hv, sh, dk, q⟩ := h
    obtain ⟨a, b, rfl, sa, sb⟩ := dp_shelf hv
    have pl0 := sh.lo
    have pl4 := sh.hi
    have n8 := sh.n8
    have n1 := sh.n1
    refine ⟨_, (pss_cons (ps_set (i := 2) sc_law_push.nd rfl (.inl rfl) (pe_call (G_law_one.mono (by first | decide | omega)) hr (by rfl) T.g_law_one T.F_law_one.kp T.b_law_one .nil pass0 (pa_cons (pv 0) (pa_cons (pe_lst (pa_cons pe_str (pa_cons pe_str pa_nil))) pa_nil))))
      (pss_cons (ps_set (i := 3) sc_law_push.nd rfl (.inl rfl) (pe_op op_add (pe_call (G_law_pick.mono (by first | decide | omega)) hr (by rfl) T.g_law_pick T.F_law_pick.kp T.b_law_pick .nil pass0 (pa_cons (pv 0) (pa_cons (pe_callB call_len_seq (by rfl) T.n_len (by decide +kernel) (pa_cons (pe_ix ix_tup (pv 1) pe_int (fun _ _ => rfl)) pa_nil)) pa_nil))) (pe_callTy call_int1 (by rfl) T.n_int (by decide +kernel) (pa_cons (pe_cmpR op_eq (pv 2) pe_str (nomark _)) pa_nil))))
      (pss_one (ps_ret (pe_tup (pa_cons (pv 2) (pa_cons (pv 3) (pa_cons (pe_op op_add (pe_callB (cr_sumT rfl) (by rfl) T.n_sum (by decide +kernel) (pa_cons (pe_slice sl_tupA (pe_ix ix_tup (pv 1) pe_int (fun _ _ => rfl)) po_none (po_some (pv 3))) pa_nil)) (pe_call (G_law_pick.mono (by first | decide | omega)) hr (by rfl) T.g_law_pick T.F_law_pick.kp T.b_law_pick .nil pass0 (pa_cons (pv 0) (pa_cons (pe_op op_add (pe_call (G_law_play.mono (by first | decide | omega)) hr (by rfl) T.g_law_play T.F_law_play.kp T.b_law_play .nil pass0 (pa_cons (pv 1) pa_nil)) pe_int) pa_nil)))) pa_nil)))))))), ?_⟩
    refine ⟨.ref k, rfl, by show 2 ≤ sizeLine; decide, fun z nz => ?_⟩
    have nzk := dk.ne nz
    refine ⟨k, z, [.str "right", .str "left"], n + 2, rfl, .inl (.inl (off_up nzk)), by decide, by decide, dk.same (same_new nz), fun x H1 hx dk1 s1 => ?_⟩
    have sm1 : Same (Off k H) (Off k H1) := (off_new nz).trans s1
    have t1 := sm1.trans (off_same k H1)
    have hx' : ∃ rt : Bool, x = .str (sideS rt) := by
      have : x = .str "right" ∨ x = .str "left" := by simpa using hx
      rcases this with e | e
      · exact ⟨true, e⟩
      · exact ⟨false, e⟩
    obtain ⟨rt, rfl⟩ := hx'
    refine ⟨.ref k, rfl, .ref a, rfl, a, _, 1, _, rfl, rfl, seqT_mono t1 sa, atI_nat (j := 1) rfl, b, _, rfl, .inr (seqT_mono t1 sb), k, _, n + 1, rfl, by rw [iV_len]; omega, by rw [iV_len]; omega, dk1, fun r H2 r0 r1 dk2 s2 => ?_⟩
    rw [iV_len] at r1
    refine ⟨_, rfl, rfl, .inr ⟨_, rfl, _, _, rfl, rfl, ?_⟩⟩
    obtain ⟨g, eg, gk⟩ : ∃ g : Nat, (r + if decide (V.str (sideS rt) = V.str "left") = true then 1 else 0) = (g : Int) ∧ (∀ c : Int, 0 ≤ c → c ≤ room - ls.sum → PuOk ls.length (room - ls.sum) (rt, g, c)) := by
      cases rt with
      | true =>
        refine ⟨r.toNat, ?_, fun c c0 c1 => ⟨fun _ => by simp only; omega, fun z => by simp at z, c0, c1⟩⟩
        rw [decide_eq_false (show ¬ V.str (sideS true) = V.str "left" from by decide +kernel)]
        simp; omega
      | false =>
        refine ⟨r.toNat + 1, ?_, fun c c0 c1 => ⟨fun z => by simp at z, fun _ => by simp only; omega, c0, c1⟩⟩
        rw [decide_eq_true (show V.str (sideS false) = V.str "left" from rfl)]
        simp; omega
    dsimp only
    rw [eg]
    have t2 := (sm1.trans s2).trans (off_same k H2)
    refine ⟨_, rfl, _, rfl, .ref a, rfl, a, _, 1, _, rfl, rfl, seqT_mono t2 sa, atI_nat (j := 1) rfl, _, rfl, _, rfl, ?_⟩
    refine slT_to (k := g) (seqT_mono t2 sb) fun p H3 s3 sp => ?_
    rw [← List.map_take] at sp
    have dk3 := dk2.same s3
    have sm3 := (sm1.trans s2).trans (off_mono s3)
    refine ⟨p, ls.take g, rfl, sp, .ref k, rfl, .ref a, rfl, .ref a, room, ls, rfl, Dpm (sm3.trans (off_same k H3)) hv, _, _, rfl, rfl, k, _, n, rfl, by omega, by omega, dk3, fun c H4 c0 c1 dk4 s4 => ?_⟩
    refine ⟨_, _, rfl, rfl, by show 3 ≤ sizeLine; decide, fun t nt => ?_⟩
    have ntk := dk4.ne nt
    refine q (.ref t) _ (rt, g, c) (gk c c0 (by omega)) (dk4.same (same_new nt)) ((sm3.trans s4).trans (off_new nt)) ?_
    refine .tup (.inl (.inl (off_up ntk))) (.cons (.str _) (.cons (.int _) (.cons ?_ .nil)))
    show Dp K _ (.int ((ls.take g).sum + c)) (.int (c + pre ls g))
    rw [show (ls.take g).sum + c = c + pre ls g from Int.add_comm _ _]
    exact .int _
end PS

namespace PS
open PySem PySem.Spec PyProof.Rows L2 LamX HT L2H
variable {P : Program} {w : World} {K : PySem.W.Frag} {mg : Str → Option Value} {base : Heap}
/-! ### the exception classes -/
abbrev exB : List Value := [.type "ValueError", .type "Exception", .type "BaseException", .type "object"]
/-- a class that is raised, caught as S, told by its kinds b1 .. b6 -/
structure Xc (K : PySem.W.Frag) (S k1 k2 k3 k4 k5 k6 D : Addr) (b1 b2 b3 b4 b5 b6 : Bool) : Prop where
  x : PySem.W.excIn K D exB "ValueError.__new__" = true
  k : PySem.W.keepIn K (.ref D) = true
  b : PySem.W.subIn K (.ref D) (.type "BaseException") = some true
  t : PySem.W.typeIn K (.ref D) = some (.type "type")
  e : PySem.W.exmOne K (.ref D) (.ref S) = some true
  c : ExcC K D
  i1 : PySem.W.kitOne K (.ref D) (.ref k1) = some b1
  i2 : PySem.W.kitOne K (.ref D) (.ref k2) = some b2
  i3 : PySem.W.kitOne K (.ref D) (.ref k3) = some b3
  i4 : PySem.W.kitOne K (.ref D) (.ref k4) = some b4
  i5 : PySem.W.kitOne K (.ref D) (.ref k5) = some b5
  i6 : PySem.W.kitOne K (.ref D) (.ref k6) = some b6
  i7 : PySem.W.kitOne K (.ref D) (.type "ValueError") = some true
structure Ux (K : PySem.W.Frag) (mg : Str → Option Value) where
  {C_ShelfError C_NoShelf C_NoStand C_NoRow C_NoDoing C_NoPush C_NoWish : Addr}
  g_ShelfError : mg "ShelfError" = some (.ref C_ShelfError)
  g_NoShelf : mg "NoShelf" = some (.ref C_NoShelf)
  g_NoStand : mg "NoStand" = some (.ref C_NoStand)
  g_NoRow : mg "NoRow" = some (.ref C_NoRow)
  g_NoDoing : mg "NoDoing" = some (.ref C_NoDoing)
  g_NoPush : mg "NoPush" = some (.ref C_NoPush)
  g_NoWish : mg "NoWish" = some (.ref C_NoWish)
  c_NoShelf : Xc K C_ShelfError C_NoShelf C_NoStand C_NoRow C_NoDoing C_NoPush C_NoWish C_NoShelf true false false false false false
  c_NoStand : Xc K C_ShelfError C_NoShelf C_NoStand C_NoRow C_NoDoing C_NoPush C_NoWish C_NoStand false true false false false false
  c_NoRow : Xc K C_ShelfError C_NoShelf C_NoStand C_NoRow C_NoDoing C_NoPush C_NoWish C_NoRow false false true false false false
  c_NoDoing : Xc K C_ShelfError C_NoShelf C_NoStand C_NoRow C_NoDoing C_NoPush C_NoWish C_NoDoing false false false true false false
/-! ### the name of a refusal -/
def kinN : List Str := ["NoShelf", "NoStand", "NoRow", "NoDoing", "NoPush", "NoWish", "+"]
def kinT (ns : List Str) (bs : List Bool) : List Str := ((ns.zip bs).filter (·.2)).map (·.1)
theorem kinT_succ {ns : List Str} {bs : List Bool} {i : Nat} {n : Str} {b : Bool} (h1 : ns[i]? = some n) (h2 : bs[i]? = some b) : kinT (ns.take (i + 1)) (bs.take (i + 1)) = kinT (ns.take i) (bs.take i) ++ (if b = true then [n] else []) := by
  unfold kinT
  have hl1 : i < ns.length := (List.getElem?_eq_some_iff.mp h1).1
  have hl2 : i < bs.length := (List.getElem?_eq_some_iff.mp h2).1
  rw [List.take_succ, List.take_succ, h1, h2, List.zip_append (by rw [List.length_take, List.length_take]; omega), List.filter_append, List.map_append]
  congr 1
  cases b <;> rfl
theorem walk_z {K : PySem.W.Frag} {a1 a2 : Addr} {xs ys : List V} {n : Nat} (h1 : n = xs.length) (h2 : n = ys.length) :
    Walk (Itz K a1 a2) n (fun H => SqL K H a1 xs ∧ SqL K H a2 ys) (fun i H v H' => ∃ T x y, v = .ref T ∧ H T = none ∧ H' = upd H T (.tup [x, y]) ∧ xs[i]? = some x ∧ ys[i]? = some y) where
  goes := fun i H hi g => ⟨xs, ys, xs[i], ys[i], g.1, g.2, List.getElem?_eq_getElem (by omega), List.getElem?_eq_getElem (by omega)⟩
  stops := fun H g => ⟨xs, ys, g.1, g.2, .inl (by omega)⟩
  yields := fun i H x H' hi g y => by
    obtain ⟨T, x, y, rfl, nT, rfl, f1, f2⟩ := y
    exact ⟨T, x, y, rfl, nT, rfl, f1 xs g.1, f2 ys g.2⟩
/-- D is the class of a refusal that is told as z -/
def Kin (U : Ux K mg) (D : Addr) (z : Str) : Prop := (D = U.C_NoShelf ∧ z = "NoShelf+") ∨ (D = U.C_NoStand ∧ z = "NoStand+") ∨ (D = U.C_NoRow ∧ z = "NoRow+") ∨ (D = U.C_NoDoing ∧ z = "NoDoing+")
theorem Kin.xc {U : Ux K mg} {D : Addr} {z : Str} (k : Kin U D z) : ∃ b1 b2 b3 b4 b5 b6, Xc K U.C_ShelfError U.C_NoShelf U.C_NoStand U.C_NoRow U.C_NoDoing U.C_NoPush U.C_NoWish D b1 b2 b3 b4 b5 b6 ∧ Txt.join "" (kinT kinN [b1, b2, b3, b4, b5, b6, true]) = z := by
  rcases k with ⟨rfl, rfl⟩ | ⟨rfl, rfl⟩ | ⟨rfl, rfl⟩ | ⟨rfl, rfl⟩
  · exact ⟨_, _, _, _, _, _, U.c_NoShelf, by decide +kernel⟩
  · exact ⟨_, _, _, _, _, _, U.c_NoStand, by decide +kernel⟩
  · exact ⟨_, _, _, _, _, _, U.c_NoRow, by decide +kernel⟩
  · exact ⟨_, _, _, _, _, _, U.c_NoDoing, by decide +kernel⟩
def sp_kin (U : Ux K mg) : Addr × Obj → Hp → VK → Prop := fun p H Q => ∃ D z, Kin U D z ∧ L2N.Zn (.ref D) none p.2 ∧ (∃ vs, p.2.data = .fields vs) ∧ ∀ H', Same H H' → Q (.str z) H'
theorem ok_law_kin (T : Tx K mg) (U : Ux K mg) : FnP P w K mg base 1 T.f_law_kin T.fd_law_kin "e" (sp_kin U) := by
  refine fnP_of T.F_law_kin sc_law_kin (fun cdv A outer s H Q p ho hr h => ?_)
  obtain ⟨D, z, kn, hz, hf, q⟩ := h
  obtain ⟨b1, b2, b3, b4, b5, b6, kf, ez⟩ := kn.xc
  have hot : HotC (cxH C8.CX0 P w K mg base ["e", "kinds_met", "names", "name", "good"] "_law_kin" (defScope s_law_kin) T.f_law_kin cdv A outer s H C8.E0 p) := ⟨p, ho, List.mem_singleton_self _⟩
  have hp : (p.1, p.2) ∈ [p] := List.mem_singleton_self _
  refine ⟨_, (pss_cons (ps_set (i := 1) sc_law_kin.nd rfl (.inl rfl) (pe_lst (pa_cons (pe_callB (call_isH kf.c hz.zc hf hp) (by rfl) T.n_isinstance (by decide +kernel) (pa_cons (pv 0) (pa_cons (pe_glob (v := .ref U.C_NoShelf) (by rfl) U.g_NoShelf rfl) pa_nil))) (pa_cons (pe_callB (call_isH kf.c hz.zc hf hp) (by rfl) T.n_isinstance (by decide +kernel) (pa_cons (pv 0) (pa_cons (pe_glob (v := .ref U.C_NoStand) (by rfl) U.g_NoStand rfl) pa_nil))) (pa_cons (pe_callB (call_isH kf.c hz.zc hf hp) (by rfl) T.n_isinstance (by decide +kernel) (pa_cons (pv 0) (pa_cons (pe_glob (v := .ref U.C_NoRow) (by rfl) U.g_NoRow rfl) pa_nil))) (pa_cons (pe_callB (call_isH kf.c hz.zc hf hp) (by rfl) T.n_isinstance (by decide +kernel) (pa_cons (pv 0) (pa_cons (pe_glob (v := .ref U.C_NoDoing) (by rfl) U.g_NoDoing rfl) pa_nil))) pa_nil))))))
      (pss_cons (ps_set (i := 1) sc_law_kin.nd rfl (.inl rfl) (pe_op op_cat (pv 1) (pe_lst (pa_cons (pe_callB (call_isH kf.c hz.zc hf hp) (by rfl) T.n_isinstance (by decide +kernel) (pa_cons (pv 0) (pa_cons (pe_glob (v := .ref U.C_NoPush) (by rfl) U.g_NoPush rfl) pa_nil))) (pa_cons (pe_callB (call_isH kf.c hz.zc hf hp) (by rfl) T.n_isinstance (by decide +kernel) (pa_cons (pv 0) (pa_cons (pe_glob (v := .ref U.C_NoWish) (by rfl) U.g_NoWish rfl) pa_nil))) (pa_cons (pe_callB (call_isH kf.c hz.zc hf hp) (by rfl) T.n_isinstance (by decide +kernel) (pa_cons (pv 0) (pa_cons (pe_bltn (v := .ty "ValueError") (by rfl) T.n_ValueError (by decide +kernel) rfl) pa_nil))) pa_nil))))))
      (pss_cons (ps_set (i := 2) sc_law_kin.nd rfl (.inl rfl) (pe_lst (pa_cons pe_str (pa_cons pe_str (pa_cons pe_str (pa_cons pe_str (pa_cons pe_str (pa_cons pe_str (pa_cons pe_str pa_nil)))))))))
      (pss_one (ps_ret (pe_join pe_str (pe_lcH (own := [("name", 3), ("good", 4)]) (g := gTup K 2 (gCons (gName 3) (gCons (gName 4) gNil))) hot sc_law_kin.nd (pi_zipH (by rfl) T.n_zip (pa_cons (pv 2) (pa_cons (pv 1) pa_nil))) (blkOk_by (own := [("name", 3), ("good", 4)]) (N := ["e", "kinds_met", "names", "name", "good"]) (sc := defScope s_law_kin) (by decide +kernel)) (fun _ _ _ _ _ => (pg_tupH (HotC.blk hot) (pgs_cons (pg_name (i := 3) sc_law_kin.nd rfl (.inl rfl)) (pgs_cons (pg_name (i := 4) sc_law_kin.nd rfl (.inl rfl)) pgs_nil)))) (fun _ _ _ _ _ => pts_one (pt_val (pv 4))) (fun _ _ _ _ _ => (pv 3))))))))), ?_⟩
  refine ⟨_, rfl, _, _, _, rfl, fun _ r => r, kf.i1, ?_⟩
  refine ⟨_, rfl, _, _, _, rfl, fun _ r => r, kf.i2, ?_⟩
  refine ⟨_, rfl, _, _, _, rfl, fun _ r => r, kf.i3, ?_⟩
  refine ⟨_, rfl, _, _, _, rfl, fun _ r => r, kf.i4, by show 4 ≤ sizeLine; decide, fun l1 n1 => ?_⟩
  refine ⟨_, rfl, ?_⟩
  refine ⟨_, rfl, _, _, _, rfl, fun _ r => r, kf.i5, ?_⟩
  refine ⟨_, rfl, _, _, _, rfl, fun _ r => r, kf.i6, ?_⟩
  refine ⟨_, rfl, _, _, _, rfl, fun _ r => r, kf.i7, by show 3 ≤ sizeLine; decide, fun l2 n2 => ?_⟩
  have ne12 : l1 ≠ l2 := ne_of_none upd_same n2
  refine ⟨l1, l2, _, _, rfl, rfl, by rw [upd_ne ne12, upd_same], upd_same, by show 4 + 3 ≤ sizeLine; decide, fun l3 n3 => ?_⟩
  have t3 := ((same_new (o := .lst [.bl b1, .bl b2, .bl b3, .bl b4]) n1).trans (same_new (o := .lst [.bl b5, .bl b6, .bl true]) n2)).trans (same_new (o := .lst ([.bl b1, .bl b2, .bl b3, .bl b4] ++ [.bl b5, .bl b6, .bl true])) n3)
  have h3 : (upd (upd (upd H l1 (.lst [.bl b1, .bl b2, .bl b3, .bl b4])) l2 (.lst [.bl b5, .bl b6, .bl true])) l3 (.lst ([.bl b1, .bl b2, .bl b3, .bl b4] ++ [.bl b5, .bl b6, .bl true]))) l3 = some (.lst ([b1, b2, b3, b4, b5, b6, true].map V.bl)) := upd_same
  refine ⟨by show 7 ≤ sizeLine; decide, fun l4 n4 => ?_⟩
  have t4 := t3.trans (same_new (o := .lst [.str "NoShelf", .str "NoStand", .str "NoRow", .str "NoDoing", .str "NoPush", .str "NoWish", .str "+"]) n4)
  have h3 := same_new (o := .lst [.str "NoShelf", .str "NoStand", .str "NoRow", .str "NoDoing", .str "NoPush", .str "NoWish", .str "+"]) n4 _ _ h3
  have h4 : upd (upd (upd (upd H l1 (.lst [.bl b1, .bl b2, .bl b3, .bl b4])) l2 (.lst [.bl b5, .bl b6, .bl true])) l3 (.lst ([.bl b1, .bl b2, .bl b3, .bl b4] ++ [.bl b5, .bl b6, .bl true]))) l4 (.lst [.str "NoShelf", .str "NoStand", .str "NoRow", .str "NoDoing", .str "NoPush", .str "NoWish", .str "+"]) l4 = some (.lst (kinN.map V.str)) := upd_same
  generalize upd (upd (upd (upd H l1 (.lst [.bl b1, .bl b2, .bl b3, .bl b4])) l2 (.lst [.bl b5, .bl b6, .bl true])) l3 (.lst ([.bl b1, .bl b2, .bl b3, .bl b4] ++ [.bl b5, .bl b6, .bl true]))) l4 (.lst [.str "NoShelf", .str "NoStand", .str "NoRow", .str "NoDoing", .str "NoPush", .str "NoWish", .str "+"]) = H4 at *
  generalize ebs : [b1, b2, b3, b4, b5, b6, true] = bs at *
  have hbs : bs.length = 7 := by rw [← ebs]; rfl
  refine ⟨⟨_, rfl⟩, _, rfl, _, rfl, l4, l3, _, _, rfl, .inl (.inl h4), .inl (.inl h3), fun D nD => ?_⟩
  refine lc_it (walk_z (n := 7) (xs := kinN.map V.str) (ys := bs.map V.bl) rfl (by rw [List.length_map, hbs])) (fun i H' => Same H4 H' ∧ H' D = some (.lst ((kinT (kinN.take i) (bs.take i)).map V.str))) ⟨same_new nD, upd_same⟩
    (fun i H' _ pp => ⟨.inl (.inl (pp.1 _ _ h4)), .inl (.inl (pp.1 _ _ h3))⟩) (fun i x H' H2 hi pp yy => ?_) (fun H' pp => ?_)
  · obtain ⟨Tt, x, y, rfl, nT, rfl, hx, hy⟩ := yy
    rw [List.getElem?_map, List.getElem?_eq_getElem (show i < kinN.length from hi)] at hx
    rw [List.getElem?_map, List.getElem?_eq_getElem (show i < bs.length by omega)] at hy
    obtain rfl := Option.some.inj hx
    obtain rfl := Option.some.inj hy
    have es := kinT_succ (List.getElem?_eq_getElem (show i < kinN.length from hi)) (List.getElem?_eq_getElem (show i < bs.length by omega))
    have s2 := pp.1.trans (same_new (o := .tup [.str (kinN[i]'hi), .bl (bs[i]'(by omega))]) nT)
    have d2 := same_new (o := .tup [.str (kinN[i]'hi), .bl (bs[i]'(by omega))]) nT _ _ pp.2
    refine ⟨Tt, _, rfl, .inl (.inl upd_same), rfl, _, _, rfl, _, [], rfl, rfl, rfl, ?_⟩
    refine ⟨_, rfl, _, rfl, ?_⟩
    have len : ((kinT (kinN.take i) (bs.take i)).map V.str).length < sizeLine := by
      rw [List.length_map]
      unfold kinT
      rw [List.length_map]
      refine Nat.lt_of_le_of_lt (List.length_filter_le _ _) ?_
      rw [List.length_zip, List.length_take]
      exact Nat.lt_of_le_of_lt (Nat.min_le_left _ _) (Nat.lt_of_le_of_lt (Nat.min_le_left _ _) (Nat.lt_trans hi (by decide)))
    cases eb : bs[i]'(by omega) with
    | true =>
      rw [eb] at es s2 d2
      rw [if_pos rfl] at es
      refine iteT ⟨_, rfl, _, d2, len, ?_, ?_⟩
      · exact fun b o e => by
          rw [upd_ne (fun z => by rw [z] at e; rw [nD] at e; cases e)]
          exact s2 _ _ e
      · rw [es, List.map_append]
        exact upd_same
    | false =>
      rw [eb] at es s2 d2
      rw [if_neg (by simp), List.append_nil] at es
      exact iteF ⟨s2, by rw [es]; exact d2⟩
  · obtain ⟨s5, d5⟩ := pp
    rw [List.take_of_length_le (show kinN.length ≤ 7 from Nat.le_refl _), List.take_of_length_le (by omega)] at d5
    have hb : ((kinT kinN bs).map (·.length)).sum + (kinT kinN bs).length * ("" : Str).length ≤ 16777216 := by
      rw [← ebs]
      cases b1 <;> cases b2 <;> cases b3 <;> cases b4 <;> cases b5 <;> cases b6 <;> decide +kernel
    refine ⟨_, D, kinT kinN bs, rfl, rfl, .inl (.inl (.inl d5)), hb, ?_⟩
    rw [ez]
    exact q _ (t4.trans s5)
/-! ### what is told of a door -/
theorem takesF {X : Cx} : L2N.Takes X (fun _ _ _ _ => False) := fun _ _ x => by
  obtain ⟨_, _, _, _, _, _, _, _, _, _, _, _, _, _, _, _, z⟩ := x
  exact z.elim
theorem pe_weak {X : Cx} {e : Expr} {t : TE} (h : PE X e t) : PE X e (fun σ H Q => ∃ Q0 : VK, t σ H Q0 ∧ ∀ v H', Q0 v H' → Q v H') := ⟨fun pins s σ H Q I ⟨Q0, h1, m⟩ =>
  wpAny_mono (h.run pins s σ H Q0 I h1) (fun _ _ ⟨x, H', I', r, q⟩ => ⟨x, H', I', r, m _ _ q⟩) fun _ _ z => z⟩
def TTr (U : Ux K mg) : (XK → Hp → VK → Prop) → Hp → VK → Prop := fun tl H Q =>
  tl (fun cls d H' => ∃ D z, Kin U D z ∧ cls = .ref D ∧ d = none ∧ ∀ H2, Same H' H2 → Q (.str z) H2) H (fun v H' => ∀ t, H' t = none → Q (.ref t) (upd H' t (.tup [.str "told", v])))
theorem gets_law_try {X : Cx} {K : PySem.W.Frag} {mg : Str → Option Value} (hK : X.K = K) (hM : X.mg = mg) (T : Tx K mg) (U : Ux K mg) {cdg : Value} {q : Str} (hr : RoomH 3 X.A) :
    GetsN X ["door", "found", "e"] "_law_try" (defScope s_law_try) T.f_law_try cdg (defBody s_law_try) "door" q (TTr U) := by
  subst hK hM
  intro f c s H Q tl act hc h
  have G_law_kin := ok_law_kin (P := X.prog) (w := X.w) (base := X.base) T U
  refine ⟨_, pss_cons (ps_set (i := 1) sc_law_try.nd rfl (.inl rfl) pe_non) (pss_cons (L2N.ps_try_as (X := (gotCx X ["door", "found", "e"] "_law_try" (defScope s_law_try) T.f_law_try cdg s H).nox) (i := 2) (c := .ref U.C_ShelfError)
      (tb := fun W D σ H => ∃ (E : XK) (Q0 : VK), (∀ cls d H', E cls d H' → W cls d σ H') ∧ σ[0]? = some (some (.ref f)) ∧ H c = some (CodeO c q) ∧ tl E H Q0 ∧ ∀ v H1, Q0 v H1 → ∀ t, H1 t = none → D.nx (σ.set 1 (some (.ref t))) (upd H1 t (.tup [.str "told", v])))
      (ts := fun a cls d D σ H => σ[2]? = some (some (.ref a)) ∧ ∃ Dd z, Kin U Dd z ∧ cls = .ref Dd ∧ d = none ∧ ∀ H2, Same H H2 → D.nx (σ.set 1 (some (.str z))) H2)
      rfl rfl sc_law_try.nd rfl rfl ⟨rfl, by decide, .inl U.g_ShelfError⟩ takesF (fun W pn xe tk _ => ⟨fun pins s' σ H' D I h' => ?_⟩) (fun a oe cls d pn hz hf => ⟨fun pins s' σ H' D I h' => ?_⟩)) (pss_one (ps_ret (pv 1)))), ?_⟩
  · obtain ⟨E, Q0, hW, h1, h2, h3, h4⟩ := h'
    refine PSs.run (pss_one (ps_set (X := ((gotCx X ["door", "found", "e"] "_law_try" (defScope s_law_try) T.f_law_try cdg s H).nox).tr pn xe) (i := 1) sc_law_try.nd rfl (.inl rfl) (pe_tup (pa_cons pe_str (pa_cons (pe_weak (act W pn xe E _ _ tk)) pa_nil))))) pins s' σ H' D I ?_
    exact ⟨Q0, ⟨h1, h2, hW, h3⟩, fun v H1 hq => ⟨by show 2 ≤ sizeLine; decide, fun t nt => h4 v H1 hq t nt⟩⟩
  · obtain ⟨h1, Dd, z, kn, rfl, rfl, h2⟩ := h'
    refine PSs.run (pss_one (ps_set (X := ((gotCx X ["door", "found", "e"] "_law_try" (defScope s_law_try) T.f_law_try cdg s H).nox).suite a ((a, oe) :: pn)) (i := 1) sc_law_try.nd rfl (.inl rfl)
      (pe_callP (x := "_law_kin") (n := "e") (X := (gotCx X ["door", "found", "e"] "_law_try" (defScope s_law_try) T.f_law_try cdg s H).nox) (i := 2) G_law_kin ((hr.mono (by decide)).deeper _) hz.2.2 hf rfl T.g_law_kin T.F_law_kin.kp T.b_law_kin rfl (.inl rfl)))) pins s' σ H' D I ?_
    exact ⟨h1, Dd, z, kn, hz, hf, fun H2 s2 => h2 H2 s2⟩
  · refine ⟨_, _, fun cls d H' hE => ?_, rfl, hc, h, fun v H1 hq t nt => ⟨_, rfl, hq t nt⟩⟩
    obtain ⟨D, z, kn, rfl, rfl, hq⟩ := hE
    obtain ⟨_, _, _, _, _, _, xc, _⟩ := kn.xc
    exact ⟨true, xc.e, fun _ a na => ⟨rfl, D, z, kn, rfl, rfl, fun H2 s2 => ⟨_, rfl, hq H2 s2⟩⟩, fun z => Bool.noConfusion z⟩
/-! ### a door is tried -/
/-- the caller's place, all else left open -/
def someX (P : Program) (w : World) (K : PySem.W.Frag) (mg : Str → Option Value) (base : Heap) (A : Around) (outer : List Env) (s : Shared) (H : Hp) (env : Env) : Cx := { prog := P, w := w, K := K, mg := mg, base := base, A := A, N := [], s_0 := s, H_0 := H, env := env, outer := outer, stack := outer, ex := [], fn := fun _ => false, calm := true, pn := [], xe := fun _ _ => False }
def sp_tryD (P : Program) (w : World) (base : Heap) (U : Ux K mg) : Sp := fun vs H Q _ => ∃ (f D : Addr) (z : Str), vs = [.ref f] ∧ Door P w K mg base 12 D f H ∧ Kin U D z ∧ ∀ H', Same H H' → Q (.str z) H'
theorem ok_law_try (T : Tx K mg) (U : Ux K mg) : FnOk P w K mg base CX0 14 T.f_law_try T.fd_law_try ["door"] (sp_tryD P w base U) := by
  refine T.F_law_try.ok sc_law_try (fun vs H Q E h => ?_) (fun cdv A outer s H vs Q E hr h => ?_)
  · obtain ⟨_, _, _, rfl, _⟩ := h
    rfl
  · obtain ⟨f, D, z, rfl, ⟨sp, vs, ⟨q, prm, body, sc, sc0, N, σ, tb, ⟨cl, c, F⟩, L, hlen, nd, hb, run, red⟩, ref⟩, kn, qq⟩ := h
    have GT := gets_law_try (X := someX P w K mg base A outer s H (envOfC "_law_try" (defScope s_law_try) s.heap.objs.size T.f_law_try cdv)) (cdg := cdv) (q := q) rfl rfl T U ⟨by have := hr.dp; show A.depth + 3 * 3 + 5 < _; have e : A.depth + 1 + 3 * 13 + 5 < recursionLimit := this; omega, by have := hr.un; show A.units + 16 * 3 + 200 < _; have e : A.units + 3 + 16 * 13 + 200 < cLine := this; omega⟩
    exact GT f c s H Q (tClo f q prm body sc N σ cl c tb) (fun W pn xe E p1 p2 tk => actC (k := 12) (sc0 := sc0) L hlen nd (fun pm ctv => hb cl pm _ ctv) tk hr (fun A outer s H E hr => run cl c A outer s H E hr) rfl (.inl rfl) (by decide) (by decide)) F.hc
      ⟨F, red _ _ _ (ref _ _ _ (ex_less F) fun H2 s2 => ⟨D, z, kn, rfl, rfl, fun H3 s3 => qq H3 ((backC_same s2).trans s3)⟩)⟩
end PS

namespace PS
open PySem PySem.Spec PyProof.Rows L2 LamX HT L2H
variable {P : Program} {w : World} {K : PySem.W.Frag} {mg : Str → Option Value} {base : Heap}
/-! ### what is refused -/
def RSh (U : Ux K mg) (d : PyData) (D : Addr) : Prop := isShelf d = false ∧ D = U.C_NoShelf
def RS (U : Ux K mg) (d e : PyData) (D : Addr) : Prop := RSh U d D ∨ ∃ room ls, d = shD room ls ∧ ShOk room ls ∧ isStand room ls e = false ∧ D = U.C_NoStand
def RR (U : Ux K mg) (d e : PyData) (D : Addr) : Prop := RSh U d D ∨ ∃ room ls, d = shD room ls ∧ ShOk room ls ∧ isRow room ls e = false ∧ e.depth ≤ 64 ∧ D = U.C_NoRow
def RG (U : Ux K mg) (d e : PyData) (D : Addr) : Prop := RSh U d D ∨ ∃ room ls, d = shD room ls ∧ ShOk room ls ∧ isDoing room ls e = false ∧ D = U.C_NoDoing
def RSS (U : Ux K mg) (d e g : PyData) (D : Addr) : Prop := RS U d e D ∨ ∃ room ls, d = shD room ls ∧ ShOk room ls ∧ isStand room ls e = true ∧ isStand room ls g = false ∧ D = U.C_NoStand
def RSR (U : Ux K mg) (d e g : PyData) (D : Addr) : Prop := RS U d e D ∨ ∃ room ls, d = shD room ls ∧ ShOk room ls ∧ isStand room ls e = true ∧ isRow room ls g = false ∧ g.depth ≤ 64 ∧ D = U.C_NoRow
def RRR (U : Ux K mg) (d e g : PyData) (D : Addr) : Prop := RR U d e D ∨ ∃ room ls, d = shD room ls ∧ ShOk room ls ∧ isRow room ls e = true ∧ e.depth ≤ 64 ∧ isRow room ls g = false ∧ g.depth ≤ 64 ∧ D = U.C_NoRow
def RGS (U : Ux K mg) (d e g : PyData) (D : Addr) : Prop := RG U d e D ∨ ∃ room ls, d = shD room ls ∧ ShOk room ls ∧ isDoing room ls e = true ∧ isStand room ls g = false ∧ D = U.C_NoStand
def RGG (U : Ux K mg) (d e g : PyData) (D : Addr) : Prop := RG U d e D ∨ ∃ room ls, d = shD room ls ∧ ShOk room ls ∧ isDoing room ls e = true ∧ isDoing room ls g = false ∧ D = U.C_NoDoing
def spr_need_shelf (U : Ux K mg) : Sp := fun vs H _ E => ∃ (v0 : V) (d0 : PyData) (D : Addr), vs = [v0] ∧ Dp K H v0 d0 ∧ RSh U d0 D ∧ ∀ H', Same H H' → E (.ref D) none H'
theorem okr_need_shelf (T : Tx K mg) (U : Ux K mg) : FnOk P w K mg base (CXn P w) 5 T.f_need_shelf T.fd_need_shelf ["thing"] (spr_need_shelf U) := by
  have G_is_shelf := ok_is_shelf (P := P) (w := w) (base := base) T
  refine funX T.F_need_shelf sc_need_shelf (fun vs H Q E h => ?_) (fun cdv A outer s H vs Q E hr h => ?_)
  · obtain ⟨_, _, _, rfl, _⟩ := h
    rfl
  · obtain ⟨v0, d0, D, rfl, h0, rel, q⟩ := h
    refine ⟨_, (pss_one (ps_if (pt_not (pt_val (pe_call (G_is_shelf.mono (by first | decide | omega)) hr (by rfl) T.g_is_shelf T.F_is_shelf.kp T.b_is_shelf .nil pass0 (pa_cons (pv 0) pa_nil)))) (pss_one (L2N.ps_raise rfl (L2N.takes_of rfl rfl rfl rfl) (L2N.pmk_own PySem.F.excBase_ValueError U.c_NoShelf.x U.g_NoShelf U.c_NoShelf.k (raises_own U.c_NoShelf.b U.c_NoShelf.t) rfl))) pss_nil)), ?_⟩
    obtain ⟨e, rfl⟩ := rel
    refine ⟨v0, rfl, v0, d0, rfl, h0, fun H1 s1 => ⟨_, rfl, ?_⟩⟩
    rw [e]
    exact iteT (q H1 s1)
theorem okx_need_shelf (T : Tx K mg) (U : Ux K mg) : FnOk P w K mg base (CXn P w) 5 T.f_need_shelf T.fd_need_shelf ["thing"] (fun vs H Q E => sp_need_shelf K vs H Q L2.E0 ∨ spr_need_shelf U vs H Q E) := fn_or (ok_need_shelf T) (okr_need_shelf T U)
def spr_is_stand (U : Ux K mg) : Sp := fun vs H _ E => ∃ (v0 v1 : V) (d0 d1 : PyData) (D : Addr), vs = [v0, v1] ∧ Dp K H v0 d0 ∧ Dp K H v1 d1 ∧ RSh U d0 D ∧ ∀ H', Same H H' → E (.ref D) none H'
theorem okr_is_stand (T : Tx K mg) (U : Ux K mg) : FnOk P w K mg base (CXn P w) 6 T.f_is_stand T.fd_is_stand ["shelf", "thing"] (spr_is_stand U) := by
  have GX_need_shelf := okx_need_shelf (P := P) (w := w) (base := base) T U
  refine funX T.F_is_stand sc_is_stand (fun vs H Q E h => ?_) (fun cdv A outer s H vs Q E hr h => ?_)
  · obtain ⟨_, _, _, _, _, rfl, _⟩ := h
    rfl
  · obtain ⟨v0, v1, d0, d1, D, rfl, h0, h1, rel, q⟩ := h
    refine ⟨_, (pss_cons (ps_expr (pe_call (GX_need_shelf.mono (by first | decide | omega)) hr (by rfl) T.g_need_shelf T.F_need_shelf.kp T.b_need_shelf .nil (L2N.passes_call (L2N.takes_of rfl rfl rfl rfl) fun _ _ _ _ h => h) (pa_cons (pv 0) pa_nil)))
      pss_never), ?_⟩
    exact ⟨v0, rfl, .inr ⟨v0, d0, D, rfl, h0, rel, q⟩⟩
theorem okx_is_stand (T : Tx K mg) (U : Ux K mg) : FnOk P w K mg base (CXn P w) 6 T.f_is_stand T.fd_is_stand ["shelf", "thing"] (fun vs H Q E => sp_is_stand K vs H Q L2.E0 ∨ spr_is_stand U vs H Q E) := fn_or (ok_is_stand T) (okr_is_stand T U)
def spr_is_row (U : Ux K mg) : Sp := fun vs H _ E => ∃ (v0 v1 : V) (d0 d1 : PyData) (D : Addr), vs = [v0, v1] ∧ Dp K H v0 d0 ∧ Dp K H v1 d1 ∧ RSh U d0 D ∧ ∀ H', Same H H' → E (.ref D) none H'
theorem okr_is_row (T : Tx K mg) (U : Ux K mg) : FnOk P w K mg base (CXn P w) 6 T.f_is_row T.fd_is_row ["shelf", "thing"] (spr_is_row U) := by
  have GX_need_shelf := okx_need_shelf (P := P) (w := w) (base := base) T U
  refine funX T.F_is_row sc_is_row (fun vs H Q E h => ?_) (fun cdv A outer s H vs Q E hr h => ?_)
  · obtain ⟨_, _, _, _, _, rfl, _⟩ := h
    rfl
  · obtain ⟨v0, v1, d0, d1, D, rfl, h0, h1, rel, q⟩ := h
    refine ⟨_, (pss_cons (ps_expr (pe_call (GX_need_shelf.mono (by first | decide | omega)) hr (by rfl) T.g_need_shelf T.F_need_shelf.kp T.b_need_shelf .nil (L2N.passes_call (L2N.takes_of rfl rfl rfl rfl) fun _ _ _ _ h => h) (pa_cons (pv 0) pa_nil)))
      pss_never), ?_⟩
    exact ⟨v0, rfl, .inr ⟨v0, d0, D, rfl, h0, rel, q⟩⟩
theorem okx_is_row (T : Tx K mg) (U : Ux K mg) : FnOk P w K mg base (CXn P w) 6 T.f_is_row T.fd_is_row ["shelf", "thing"] (fun vs H Q E => sp_is_row K vs H Q L2.E0 ∨ spr_is_row U vs H Q E) := fn_or (ok_is_row T) (okr_is_row T U)
def spr_is_doing (U : Ux K mg) : Sp := fun vs H _ E => ∃ (v0 v1 : V) (d0 d1 : PyData) (D : Addr), vs = [v0, v1] ∧ Dp K H v0 d0 ∧ Dp K H v1 d1 ∧ RSh U d0 D ∧ ∀ H', Same H H' → E (.ref D) none H'
theorem okr_is_doing (T : Tx K mg) (U : Ux K mg) : FnOk P w K mg base (CXn P w) 7 T.f_is_doing T.fd_is_doing ["shelf", "thing"] (spr_is_doing U) := by
  have GX_need_shelf := okx_need_shelf (P := P) (w := w) (base := base) T U
  refine funX T.F_is_doing sc_is_doing (fun vs H Q E h => ?_) (fun cdv A outer s H vs Q E hr h => ?_)
  · obtain ⟨_, _, _, _, _, rfl, _⟩ := h
    rfl
  · obtain ⟨v0, v1, d0, d1, D, rfl, h0, h1, rel, q⟩ := h
    refine ⟨_, (pss_cons (ps_expr (pe_call (GX_need_shelf.mono (by first | decide | omega)) hr (by rfl) T.g_need_shelf T.F_need_shelf.kp T.b_need_shelf .nil (L2N.passes_call (L2N.takes_of rfl rfl rfl rfl) fun _ _ _ _ h => h) (pa_cons (pv 0) pa_nil)))
      pss_never), ?_⟩
    exact ⟨v0, rfl, .inr ⟨v0, d0, D, rfl, h0, rel, q⟩⟩
theorem okx_is_doing (T : Tx K mg) (U : Ux K mg) : FnOk P w K mg base (CXn P w) 7 T.f_is_doing T.fd_is_doing ["shelf", "thing"] (fun vs H Q E => sp_is_doing K vs H Q L2.E0 ∨ spr_is_doing U vs H Q E) := fn_or (ok_is_doing T) (okr_is_doing T U)
def spr_need_stand (U : Ux K mg) : Sp := fun vs H _ E => ∃ (v0 v1 : V) (d0 d1 : PyData) (D : Addr), vs = [v0, v1] ∧ Dp K H v0 d0 ∧ Dp K H v1 d1 ∧ RS U d0 d1 D ∧ ∀ H', Same H H' → E (.ref D) none H'
theorem okr_need_stand (T : Tx K mg) (U : Ux K mg) : FnOk P w K mg base (CXn P w) 7 T.f_need_stand T.fd_need_stand ["shelf", "thing"] (spr_need_stand U) := by
  have GX_is_stand := okx_is_stand (P := P) (w := w) (base := base) T U
  refine funX T.F_need_stand sc_need_stand (fun vs H Q E h => ?_) (fun cdv A outer s H vs Q E hr h => ?_)
  · obtain ⟨_, _, _, _, _, rfl, _⟩ := h
    rfl
  · obtain ⟨v0, v1, d0, d1, D, rfl, h0, h1, rel, q⟩ := h
    refine ⟨_, (pss_one (ps_if (pt_not (pt_val (pe_call (GX_is_stand.mono (by first | decide | omega)) hr (by rfl) T.g_is_stand T.F_is_stand.kp T.b_is_stand .nil (L2N.passes_call (L2N.takes_of rfl rfl rfl rfl) fun _ _ _ _ h => h) (pa_cons (pv 0) (pa_cons (pv 1) pa_nil))))) (pss_one (L2N.ps_raise rfl (L2N.takes_of rfl rfl rfl rfl) (L2N.pmk_own PySem.F.excBase_ValueError U.c_NoStand.x U.g_NoStand U.c_NoStand.k (raises_own U.c_NoStand.b U.c_NoStand.t) rfl))) pss_nil)), ?_⟩
    rcases rel with rel | ⟨room, ls, rfl, sh, e, rfl⟩
    · exact ⟨v0, rfl, v1, rfl, .inr ⟨v0, v1, d0, d1, D, rfl, h0, h1, rel, q⟩⟩
    · refine ⟨v0, rfl, v1, rfl, .inl ⟨v0, v1, room, ls, d1, rfl, h0, sh, h1, fun H1 s1 => ⟨_, rfl, ?_⟩⟩⟩
      rw [e]
      exact iteT (q H1 s1)
theorem okx_need_stand (T : Tx K mg) (U : Ux K mg) : FnOk P w K mg base (CXn P w) 7 T.f_need_stand T.fd_need_stand ["shelf", "thing"] (fun vs H Q E => sp_need_stand K vs H Q L2.E0 ∨ spr_need_stand U vs H Q E) := fn_or (ok_need_stand T) (okr_need_stand T U)
def spr_need_row (U : Ux K mg) : Sp := fun vs H _ E => ∃ (v0 v1 : V) (d0 d1 : PyData) (D : Addr), vs = [v0, v1] ∧ Dp K H v0 d0 ∧ Dp K H v1 d1 ∧ RR U d0 d1 D ∧ ∀ H', Same H H' → E (.ref D) none H'
theorem okr_need_row (T : Tx K mg) (U : Ux K mg) : FnOk P w K mg base (CXn P w) 7 T.f_need_row T.fd_need_row ["shelf", "thing"] (spr_need_row U) := by
  have GX_is_row := okx_is_row (P := P) (w := w) (base := base) T U
  refine funX T.F_need_row sc_need_row (fun vs H Q E h => ?_) (fun cdv A outer s H vs Q E hr h => ?_)
  · obtain ⟨_, _, _, _, _, rfl, _⟩ := h
    rfl
  · obtain ⟨v0, v1, d0, d1, D, rfl, h0, h1, rel, q⟩ := h
    refine ⟨_, (pss_one (ps_if (pt_not (pt_val (pe_call (GX_is_row.mono (by first | decide | omega)) hr (by rfl) T.g_is_row T.F_is_row.kp T.b_is_row .nil (L2N.passes_call (L2N.takes_of rfl rfl rfl rfl) fun _ _ _ _ h => h) (pa_cons (pv 0) (pa_cons (pv 1) pa_nil))))) (pss_one (L2N.ps_raise rfl (L2N.takes_of rfl rfl rfl rfl) (L2N.pmk_own PySem.F.excBase_ValueError U.c_NoRow.x U.g_NoRow U.c_NoRow.k (raises_own U.c_NoRow.b U.c_NoRow.t) rfl))) pss_nil)), ?_⟩
    rcases rel with rel | ⟨room, ls, rfl, sh, e, dp, rfl⟩
    · exact ⟨v0, rfl, v1, rfl, .inr ⟨v0, v1, d0, d1, D, rfl, h0, h1, rel, q⟩⟩
    · refine ⟨v0, rfl, v1, rfl, .inl ⟨v0, v1, room, ls, d1, rfl, h0, sh, h1, dp, fun H1 s1 => ⟨_, rfl, ?_⟩⟩⟩
      rw [e]
      exact iteT (q H1 s1)
theorem okx_need_row (T : Tx K mg) (U : Ux K mg) : FnOk P w K mg base (CXn P w) 7 T.f_need_row T.fd_need_row ["shelf", "thing"] (fun vs H Q E => sp_need_row K vs H Q L2.E0 ∨ spr_need_row U vs H Q E) := fn_or (ok_need_row T) (okr_need_row T U)
def spr_need_doing (U : Ux K mg) : Sp := fun vs H _ E => ∃ (v0 v1 : V) (d0 d1 : PyData) (D : Addr), vs = [v0, v1] ∧ Dp K H v0 d0 ∧ Dp K H v1 d1 ∧ RG U d0 d1 D ∧ ∀ H', Same H H' → E (.ref D) none H'
theorem okr_need_doing (T : Tx K mg) (U : Ux K mg) : FnOk P w K mg base (CXn P w) 8 T.f_need_doing T.fd_need_doing ["shelf", "thing"] (spr_need_doing U) := by
  have GX_is_doing := okx_is_doing (P := P) (w := w) (base := base) T U
  refine funX T.F_need_doing sc_need_doing (fun vs H Q E h => ?_) (fun cdv A outer s H vs Q E hr h => ?_)
  · obtain ⟨_, _, _, _, _, rfl, _⟩ := h
    rfl
  · obtain ⟨v0, v1, d0, d1, D, rfl, h0, h1, rel, q⟩ := h
    refine ⟨_, (pss_one (ps_if (pt_not (pt_val (pe_call (GX_is_doing.mono (by first | decide | omega)) hr (by rfl) T.g_is_doing T.F_is_doing.kp T.b_is_doing .nil (L2N.passes_call (L2N.takes_of rfl rfl rfl rfl) fun _ _ _ _ h => h) (pa_cons (pv 0) (pa_cons (pv 1) pa_nil))))) (pss_one (L2N.ps_raise rfl (L2N.takes_of rfl rfl rfl rfl) (L2N.pmk_own PySem.F.excBase_ValueError U.c_NoDoing.x U.g_NoDoing U.c_NoDoing.k (raises_own U.c_NoDoing.b U.c_NoDoing.t) rfl))) pss_nil)), ?_⟩
    rcases rel with rel | ⟨room, ls, rfl, sh, e, rfl⟩
    · exact ⟨v0, rfl, v1, rfl, .inr ⟨v0, v1, d0, d1, D, rfl, h0, h1, rel, q⟩⟩
    · refine ⟨v0, rfl, v1, rfl, .inl ⟨v0, v1, room, ls, d1, rfl, h0, sh, h1, fun H1 s1 => ⟨_, rfl, ?_⟩⟩⟩
      rw [e]
      exact iteT (q H1 s1)
theorem okx_need_doing (T : Tx K mg) (U : Ux K mg) : FnOk P w K mg base (CXn P w) 8 T.f_need_doing T.fd_need_doing ["shelf", "thing"] (fun vs H Q E => sp_need_doing K vs H Q L2.E0 ∨ spr_need_doing U vs H Q E) := fn_or (ok_need_doing T) (okr_need_doing T U)
def spr_need_both (U : Ux K mg) : Sp := fun vs H _ E => ∃ (v0 v1 v2 : V) (d0 d1 d2 : PyData) (D : Addr), vs = [v0, v1, v2] ∧ Dp K H v0 d0 ∧ Dp K H v1 d1 ∧ Dp K H v2 d2 ∧ RSS U d0 d1 d2 D ∧ ∀ H', Same H H' → E (.ref D) none H'
theorem okr_need_both (T : Tx K mg) (U : Ux K mg) : FnOk P w K mg base (CXn P w) 8 T.f_need_both T.fd_need_both ["shelf", "stand", "wish"] (spr_need_both U) := by
  have GX_need_stand := okx_need_stand (P := P) (w := w) (base := base) T U
  refine funX T.F_need_both sc_need_both (fun vs H Q E h => ?_) (fun cdv A outer s H vs Q E hr h => ?_)
  · obtain ⟨_, _, _, _, _, _, _, rfl, _⟩ := h
    rfl
  · obtain ⟨v0, v1, v2, d0, d1, d2, D, rfl, h0, h1, h2, rel, q⟩ := h
    refine ⟨_, (pss_cons (ps_expr (pe_call (GX_need_stand.mono (by first | decide | omega)) hr (by rfl) T.g_need_stand T.F_need_stand.kp T.b_need_stand .nil (L2N.passes_call (L2N.takes_of rfl rfl rfl rfl) fun _ _ _ _ h => h) (pa_cons (pv 0) (pa_cons (pv 1) pa_nil))))
      (pss_cons (ps_expr (pe_call (GX_need_stand.mono (by first | decide | omega)) hr (by rfl) T.g_need_stand T.F_need_stand.kp T.b_need_stand .nil (L2N.passes_call (L2N.takes_of rfl rfl rfl rfl) fun _ _ _ _ h => h) (pa_cons (pv 0) (pa_cons (pv 2) pa_nil))))
      pss_never)), ?_⟩
    rcases rel with rel | ⟨room, ls, rfl, sh, e, e2, rfl⟩
    · exact ⟨v0, rfl, v1, rfl, .inr ⟨v0, v1, d0, d1, D, rfl, h0, h1, rel, q⟩⟩
    · exact ⟨v0, rfl, v1, rfl, .inl ⟨v0, v1, room, ls, d1, rfl, h0, sh, h1, e, fun H1 s1 => ⟨v0, rfl, v2, rfl, .inr ⟨v0, v2, _, d2, _, rfl, Dpm s1 h0, Dpm s1 h2, .inr ⟨room, ls, rfl, sh, e2, rfl⟩, fun H2 s2 => q H2 (s1.trans s2)⟩⟩⟩⟩
theorem okx_need_both (T : Tx K mg) (U : Ux K mg) : FnOk P w K mg base (CXn P w) 8 T.f_need_both T.fd_need_both ["shelf", "stand", "wish"] (spr_need_both U) := okr_need_both T U
def spr_behind (U : Ux K mg) : Sp := fun vs H _ E => ∃ (v0 v1 v2 : V) (d0 d1 d2 : PyData) (D : Addr), vs = [v0, v1, v2] ∧ Dp K H v0 d0 ∧ Dp K H v1 d1 ∧ Dp K H v2 d2 ∧ RSR U d0 d1 d2 D ∧ ∀ H', Same H H' → E (.ref D) none H'
theorem okr_behind (T : Tx K mg) (U : Ux K mg) : FnOk P w K mg base (CXn P w) 8 T.f_behind T.fd_behind ["shelf", "stand", "row"] (spr_behind U) := by
  have GX_need_row := okx_need_row (P := P) (w := w) (base := base) T U
  have GX_need_stand := okx_need_stand (P := P) (w := w) (base := base) T U
  refine funX T.F_behind sc_behind (fun vs H Q E h => ?_) (fun cdv A outer s H vs Q E hr h => ?_)
  · obtain ⟨_, _, _, _, _, _, _, rfl, _⟩ := h
    rfl
  · obtain ⟨v0, v1, v2, d0, d1, d2, D, rfl, h0, h1, h2, rel, q⟩ := h
    refine ⟨_, (pss_cons (ps_expr (pe_call (GX_need_stand.mono (by first | decide | omega)) hr (by rfl) T.g_need_stand T.F_need_stand.kp T.b_need_stand .nil (L2N.passes_call (L2N.takes_of rfl rfl rfl rfl) fun _ _ _ _ h => h) (pa_cons (pv 0) (pa_cons (pv 1) pa_nil))))
      (pss_cons (ps_expr (pe_call (GX_need_row.mono (by first | decide | omega)) hr (by rfl) T.g_need_row T.F_need_row.kp T.b_need_row .nil (L2N.passes_call (L2N.takes_of rfl rfl rfl rfl) fun _ _ _ _ h => h) (pa_cons (pv 0) (pa_cons (pv 2) pa_nil))))
      pss_never)), ?_⟩
    rcases rel with rel | ⟨room, ls, rfl, sh, e, e2, dp2, rfl⟩
    · exact ⟨v0, rfl, v1, rfl, .inr ⟨v0, v1, d0, d1, D, rfl, h0, h1, rel, q⟩⟩
    · exact ⟨v0, rfl, v1, rfl, .inl ⟨v0, v1, room, ls, d1, rfl, h0, sh, h1, e, fun H1 s1 => ⟨v0, rfl, v2, rfl, .inr ⟨v0, v2, _, d2, _, rfl, Dpm s1 h0, Dpm s1 h2, .inr ⟨room, ls, rfl, sh, e2, dp2, rfl⟩, fun H2 s2 => q H2 (s1.trans s2)⟩⟩⟩⟩
def spr_parted (U : Ux K mg) : Sp := fun vs H _ E => ∃ (v0 v1 v2 : V) (d0 d1 d2 : PyData) (D : Addr), vs = [v0, v1, v2] ∧ Dp K H v0 d0 ∧ Dp K H v1 d1 ∧ Dp K H v2 d2 ∧ RRR U d0 d1 d2 D ∧ ∀ H', Same H H' → E (.ref D) none H'
theorem okr_parted (T : Tx K mg) (U : Ux K mg) : FnOk P w K mg base (CXn P w) 8 T.f_parted T.fd_parted ["shelf", "row", "other"] (spr_parted U) := by
  have GX_need_row := okx_need_row (P := P) (w := w) (base := base) T U
  refine funX T.F_parted sc_parted (fun vs H Q E h => ?_) (fun cdv A outer s H vs Q E hr h => ?_)
  · obtain ⟨_, _, _, _, _, _, _, rfl, _⟩ := h
    rfl
  · obtain ⟨v0, v1, v2, d0, d1, d2, D, rfl, h0, h1, h2, rel, q⟩ := h
    refine ⟨_, (pss_cons (ps_expr (pe_call (GX_need_row.mono (by first | decide | omega)) hr (by rfl) T.g_need_row T.F_need_row.kp T.b_need_row .nil (L2N.passes_call (L2N.takes_of rfl rfl rfl rfl) fun _ _ _ _ h => h) (pa_cons (pv 0) (pa_cons (pv 1) pa_nil))))
      (pss_cons (ps_expr (pe_call (GX_need_row.mono (by first | decide | omega)) hr (by rfl) T.g_need_row T.F_need_row.kp T.b_need_row .nil (L2N.passes_call (L2N.takes_of rfl rfl rfl rfl) fun _ _ _ _ h => h) (pa_cons (pv 0) (pa_cons (pv 2) pa_nil))))
      pss_never)), ?_⟩
    rcases rel with rel | ⟨room, ls, rfl, sh, e, dp, e2, dp2, rfl⟩
    · exact ⟨v0, rfl, v1, rfl, .inr ⟨v0, v1, d0, d1, D, rfl, h0, h1, rel, q⟩⟩
    · exact ⟨v0, rfl, v1, rfl, .inl ⟨v0, v1, room, ls, d1, rfl, h0, sh, h1, dp, e, fun H1 s1 => ⟨v0, rfl, v2, rfl, .inr ⟨v0, v2, _, d2, _, rfl, Dpm s1 h0, Dpm s1 h2, .inr ⟨room, ls, rfl, sh, e2, dp2, rfl⟩, fun H2 s2 => q H2 (s1.trans s2)⟩⟩⟩⟩
theorem okx_parted (T : Tx K mg) (U : Ux K mg) : FnOk P w K mg base (CXn P w) 8 T.f_parted T.fd_parted ["shelf", "row", "other"] (spr_parted U) := okr_parted T U
def spr_led (U : Ux K mg) : Sp := fun vs H _ E => ∃ (v0 v1 v2 : V) (d0 d1 d2 : PyData) (D : Addr), vs = [v0, v1, v2] ∧ Dp K H v0 d0 ∧ Dp K H v1 d1 ∧ Dp K H v2 d2 ∧ RGS U d0 d1 d2 D ∧ ∀ H', Same H H' → E (.ref D) none H'
theorem okr_led (T : Tx K mg) (U : Ux K mg) : FnOk P w K mg base (CXn P w) 9 T.f_led T.fd_led ["shelf", "doing", "stand"] (spr_led U) := by
  have GX_need_doing := okx_need_doing (P := P) (w := w) (base := base) T U
  have GX_need_stand := okx_need_stand (P := P) (w := w) (base := base) T U
  refine funX T.F_led sc_led (fun vs H Q E h => ?_) (fun cdv A outer s H vs Q E hr h => ?_)
  · obtain ⟨_, _, _, _, _, _, _, rfl, _⟩ := h
    rfl
  · obtain ⟨v0, v1, v2, d0, d1, d2, D, rfl, h0, h1, h2, rel, q⟩ := h
    refine ⟨_, (pss_cons (ps_expr (pe_call (GX_need_doing.mono (by first | decide | omega)) hr (by rfl) T.g_need_doing T.F_need_doing.kp T.b_need_doing .nil (L2N.passes_call (L2N.takes_of rfl rfl rfl rfl) fun _ _ _ _ h => h) (pa_cons (pv 0) (pa_cons (pv 1) pa_nil))))
      (pss_cons (ps_expr (pe_call (GX_need_stand.mono (by first | decide | omega)) hr (by rfl) T.g_need_stand T.F_need_stand.kp T.b_need_stand .nil (L2N.passes_call (L2N.takes_of rfl rfl rfl rfl) fun _ _ _ _ h => h) (pa_cons (pv 0) (pa_cons (pv 2) pa_nil))))
      pss_never)), ?_⟩
    rcases rel with rel | ⟨room, ls, rfl, sh, e, e2, rfl⟩
    · exact ⟨v0, rfl, v1, rfl, .inr ⟨v0, v1, d0, d1, D, rfl, h0, h1, rel, q⟩⟩
    · exact ⟨v0, rfl, v1, rfl, .inl ⟨v0, v1, room, ls, d1, rfl, h0, sh, h1, e, fun H1 s1 => ⟨v0, rfl, v2, rfl, .inr ⟨v0, v2, _, d2, _, rfl, Dpm s1 h0, Dpm s1 h2, .inr ⟨room, ls, rfl, sh, e2, rfl⟩, fun H2 s2 => q H2 (s1.trans s2)⟩⟩⟩⟩
def spr_leading (U : Ux K mg) : Sp := fun vs H _ E => ∃ (v0 v1 v2 : V) (d0 d1 d2 : PyData) (D : Addr), vs = [v0, v1, v2] ∧ Dp K H v0 d0 ∧ Dp K H v1 d1 ∧ Dp K H v2 d2 ∧ RGS U d0 d1 d2 D ∧ ∀ H', Same H H' → E (.ref D) none H'
theorem okr_leading (T : Tx K mg) (U : Ux K mg) : FnOk P w K mg base (CXn P w) 9 T.f_leading T.fd_leading ["shelf", "doing", "stand"] (spr_leading U) := by
  have GX_need_doing := okx_need_doing (P := P) (w := w) (base := base) T U
  have GX_need_stand := okx_need_stand (P := P) (w := w) (base := base) T U
  refine funX T.F_leading sc_leading (fun vs H Q E h => ?_) (fun cdv A outer s H vs Q E hr h => ?_)
  · obtain ⟨_, _, _, _, _, _, _, rfl, _⟩ := h
    rfl
  · obtain ⟨v0, v1, v2, d0, d1, d2, D, rfl, h0, h1, h2, rel, q⟩ := h
    refine ⟨_, (pss_cons (ps_expr (pe_call (GX_need_doing.mono (by first | decide | omega)) hr (by rfl) T.g_need_doing T.F_need_doing.kp T.b_need_doing .nil (L2N.passes_call (L2N.takes_of rfl rfl rfl rfl) fun _ _ _ _ h => h) (pa_cons (pv 0) (pa_cons (pv 1) pa_nil))))
      (pss_cons (ps_expr (pe_call (GX_need_stand.mono (by first | decide | omega)) hr (by rfl) T.g_need_stand T.F_need_stand.kp T.b_need_stand .nil (L2N.passes_call (L2N.takes_of rfl rfl rfl rfl) fun _ _ _ _ h => h) (pa_cons (pv 0) (pa_cons (pv 2) pa_nil))))
      pss_never)), ?_⟩
    rcases rel with rel | ⟨room, ls, rfl, sh, e, e2, rfl⟩
    · exact ⟨v0, rfl, v1, rfl, .inr ⟨v0, v1, d0, d1, D, rfl, h0, h1, rel, q⟩⟩
    · exact ⟨v0, rfl, v1, rfl, .inl ⟨v0, v1, room, ls, d1, rfl, h0, sh, h1, e, fun H1 s1 => ⟨v0, rfl, v2, rfl, .inr ⟨v0, v2, _, d2, _, rfl, Dpm s1 h0, Dpm s1 h2, .inr ⟨room, ls, rfl, sh, e2, rfl⟩, fun H2 s2 => q H2 (s1.trans s2)⟩⟩⟩⟩
def spr_joined (U : Ux K mg) : Sp := fun vs H _ E => ∃ (v0 v1 v2 : V) (d0 d1 d2 : PyData) (D : Addr), vs = [v0, v1, v2] ∧ Dp K H v0 d0 ∧ Dp K H v1 d1 ∧ Dp K H v2 d2 ∧ RGG U d0 d1 d2 D ∧ ∀ H', Same H H' → E (.ref D) none H'
theorem okr_joined (T : Tx K mg) (U : Ux K mg) : FnOk P w K mg base (CXn P w) 9 T.f_joined T.fd_joined ["shelf", "doing", "second"] (spr_joined U) := by
  have GX_need_doing := okx_need_doing (P := P) (w := w) (base := base) T U
  refine funX T.F_joined sc_joined (fun vs H Q E h => ?_) (fun cdv A outer s H vs Q E hr h => ?_)
  · obtain ⟨_, _, _, _, _, _, _, rfl, _⟩ := h
    rfl
  · obtain ⟨v0, v1, v2, d0, d1, d2, D, rfl, h0, h1, h2, rel, q⟩ := h
    refine ⟨_, (pss_cons (ps_expr (pe_call (GX_need_doing.mono (by first | decide | omega)) hr (by rfl) T.g_need_doing T.F_need_doing.kp T.b_need_doing .nil (L2N.passes_call (L2N.takes_of rfl rfl rfl rfl) fun _ _ _ _ h => h) (pa_cons (pv 0) (pa_cons (pv 1) pa_nil))))
      (pss_cons (ps_expr (pe_call (GX_need_doing.mono (by first | decide | omega)) hr (by rfl) T.g_need_doing T.F_need_doing.kp T.b_need_doing .nil (L2N.passes_call (L2N.takes_of rfl rfl rfl rfl) fun _ _ _ _ h => h) (pa_cons (pv 0) (pa_cons (pv 2) pa_nil))))
      pss_never)), ?_⟩
    rcases rel with rel | ⟨room, ls, rfl, sh, e, e2, rfl⟩
    · exact ⟨v0, rfl, v1, rfl, .inr ⟨v0, v1, d0, d1, D, rfl, h0, h1, rel, q⟩⟩
    · exact ⟨v0, rfl, v1, rfl, .inl ⟨v0, v1, room, ls, d1, rfl, h0, sh, h1, e, fun H1 s1 => ⟨v0, rfl, v2, rfl, .inr ⟨v0, v2, _, d2, _, rfl, Dpm s1 h0, Dpm s1 h2, .inr ⟨room, ls, rfl, sh, e2, rfl⟩, fun H2 s2 => q H2 (s1.trans s2)⟩⟩⟩⟩
def spr_fewest (U : Ux K mg) : Sp := fun vs H _ E => ∃ (v0 v1 v2 : V) (d0 d1 d2 : PyData) (D : Addr), vs = [v0, v1, v2] ∧ Dp K H v0 d0 ∧ Dp K H v1 d1 ∧ Dp K H v2 d2 ∧ RSS U d0 d1 d2 D ∧ ∀ H', Same H H' → E (.ref D) none H'
theorem okr_fewest (T : Tx K mg) (U : Ux K mg) : FnOk P w K mg base (CXn P w) 9 T.f_fewest T.fd_fewest ["shelf", "stand", "wish"] (spr_fewest U) := by
  have GX_need_both := okx_need_both (P := P) (w := w) (base := base) T U
  refine funX T.F_fewest sc_fewest (fun vs H Q E h => ?_) (fun cdv A outer s H vs Q E hr h => ?_)
  · obtain ⟨_, _, _, _, _, _, _, rfl, _⟩ := h
    rfl
  · obtain ⟨v0, v1, v2, d0, d1, d2, D, rfl, h0, h1, h2, rel, q⟩ := h
    refine ⟨_, (pss_cons (ps_expr (pe_call (GX_need_both.mono (by first | decide | omega)) hr (by rfl) T.g_need_both T.F_need_both.kp T.b_need_both .nil (L2N.passes_call (L2N.takes_of rfl rfl rfl rfl) fun _ _ _ _ h => h) (pa_cons (pv 0) (pa_cons (pv 1) (pa_cons (pv 2) pa_nil)))))
      pss_never), ?_⟩
    exact ⟨v0, rfl, v1, rfl, v2, rfl, v0, v1, v2, d0, d1, d2, D, rfl, h0, h1, h2, rel, q⟩
def spr_pushes_to (U : Ux K mg) : Sp := fun vs H _ E => ∃ (v0 v1 v2 : V) (d0 d1 d2 : PyData) (D : Addr), vs = [v0, v1, v2] ∧ Dp K H v0 d0 ∧ Dp K H v1 d1 ∧ Dp K H v2 d2 ∧ RSS U d0 d1 d2 D ∧ ∀ H', Same H H' → E (.ref D) none H'
theorem okr_pushes_to (T : Tx K mg) (U : Ux K mg) : FnOk P w K mg base (CXn P w) 9 T.f_pushes_to T.fd_pushes_to ["shelf", "stand", "wish"] (spr_pushes_to U) := by
  have GX_need_both := okx_need_both (P := P) (w := w) (base := base) T U
  refine funX T.F_pushes_to sc_pushes_to (fun vs H Q E h => ?_) (fun cdv A outer s H vs Q E hr h => ?_)
  · obtain ⟨_, _, _, _, _, _, _, rfl, _⟩ := h
    rfl
  · obtain ⟨v0, v1, v2, d0, d1, d2, D, rfl, h0, h1, h2, rel, q⟩ := h
    refine ⟨_, (pss_cons (ps_expr (pe_call (GX_need_both.mono (by first | decide | omega)) hr (by rfl) T.g_need_both T.F_need_both.kp T.b_need_both .nil (L2N.passes_call (L2N.takes_of rfl rfl rfl rfl) fun _ _ _ _ h => h) (pa_cons (pv 0) (pa_cons (pv 1) (pa_cons (pv 2) pa_nil)))))
      pss_never), ?_⟩
    exact ⟨v0, rfl, v1, rfl, v2, rfl, v0, v1, v2, d0, d1, d2, D, rfl, h0, h1, h2, rel, q⟩
def spr_leads (U : Ux K mg) : Sp := fun vs H _ E => ∃ (v0 v1 v2 v3 : V) (d0 d1 d2 d3 : PyData) (D : Addr), vs = [v0, v1, v2, v3] ∧ Dp K H v0 d0 ∧ Dp K H v1 d1 ∧ Dp K H v2 d2 ∧ Dp K H v3 d3 ∧ RSS U d0 d1 d2 D ∧ ∀ H', Same H H' → E (.ref D) none H'
theorem okr_leads (T : Tx K mg) (U : Ux K mg) : FnOk P w K mg base (CXn P w) 9 T.f_leads T.fd_leads ["shelf", "stand", "wish", "thing"] (spr_leads U) := by
  have GX_need_both := okx_need_both (P := P) (w := w) (base := base) T U
  refine funX T.F_leads sc_leads (fun vs H Q E h => ?_) (fun cdv A outer s H vs Q E hr h => ?_)
  · obtain ⟨_, _, _, _, _, _, _, _, _, rfl, _⟩ := h
    rfl
  · obtain ⟨v0, v1, v2, v3, d0, d1, d2, d3, D, rfl, h0, h1, h2, h3, rel, q⟩ := h
    refine ⟨_, (pss_cons (ps_expr (pe_call (GX_need_both.mono (by first | decide | omega)) hr (by rfl) T.g_need_both T.F_need_both.kp T.b_need_both .nil (L2N.passes_call (L2N.takes_of rfl rfl rfl rfl) fun _ _ _ _ h => h) (pa_cons (pv 0) (pa_cons (pv 1) (pa_cons (pv 2) pa_nil)))))
      pss_never), ?_⟩
    exact ⟨v0, rfl, v1, rfl, v2, rfl, v0, v1, v2, d0, d1, d2, D, rfl, h0, h1, h2, rel, q⟩
def spr_alike (U : Ux K mg) : Sp := fun vs H _ E => ∃ (v0 v1 v2 : V) (d0 d1 d2 : PyData) (D : Addr), vs = [v0, v1, v2] ∧ Dp K H v0 d0 ∧ Dp K H v1 d1 ∧ Dp K H v2 d2 ∧ RRR U d0 d1 d2 D ∧ ∀ H', Same H H' → E (.ref D) none H'
theorem okr_alike (T : Tx K mg) (U : Ux K mg) : FnOk P w K mg base (CXn P w) 9 T.f_alike T.fd_alike ["shelf", "row", "other"] (spr_alike U) := by
  have GX_parted := okx_parted (P := P) (w := w) (base := base) T U
  refine funX T.F_alike sc_alike (fun vs H Q E h => ?_) (fun cdv A outer s H vs Q E hr h => ?_)
  · obtain ⟨_, _, _, _, _, _, _, rfl, _⟩ := h
    rfl
  · obtain ⟨v0, v1, v2, d0, d1, d2, D, rfl, h0, h1, h2, rel, q⟩ := h
    refine ⟨_, (pss_one (ps_ret (pe_cmpR op_isN (pe_call (GX_parted.mono (by first | decide | omega)) hr (by rfl) T.g_parted T.F_parted.kp T.b_parted .nil (L2N.passes_call (L2N.takes_of rfl rfl rfl rfl) fun _ _ _ _ h => h) (pa_cons (pv 0) (pa_cons (pv 1) (pa_cons (pv 2) pa_nil)))) pe_non (nomark _)))), ?_⟩
    exact ⟨v0, rfl, v1, rfl, v2, rfl, v0, v1, v2, d0, d1, d2, D, rfl, h0, h1, h2, rel, q⟩
def spr_doing_of (U : Ux K mg) : Sp := fun vs H _ E => ∃ (v0 v1 : V) (d0 d1 : PyData) (D : Addr), vs = [v0, v1] ∧ Dp K H v0 d0 ∧ Dp K H v1 d1 ∧ RR U d0 d1 D ∧ ∀ H', Same H H' → E (.ref D) none H'
theorem okr_doing_of (T : Tx K mg) (U : Ux K mg) : FnOk P w K mg base (CXn P w) 8 T.f_doing_of T.fd_doing_of ["shelf", "row"] (spr_doing_of U) := by
  have GX_need_row := okx_need_row (P := P) (w := w) (base := base) T U
  refine funX T.F_doing_of sc_doing_of (fun vs H Q E h => ?_) (fun cdv A outer s H vs Q E hr h => ?_)
  · obtain ⟨_, _, _, _, _, rfl, _⟩ := h
    rfl
  · obtain ⟨v0, v1, d0, d1, D, rfl, h0, h1, rel, q⟩ := h
    refine ⟨_, (pss_cons (ps_expr (pe_call (GX_need_row.mono (by first | decide | omega)) hr (by rfl) T.g_need_row T.F_need_row.kp T.b_need_row .nil (L2N.passes_call (L2N.takes_of rfl rfl rfl rfl) fun _ _ _ _ h => h) (pa_cons (pv 0) (pa_cons (pv 1) pa_nil))))
      pss_never), ?_⟩
    exact ⟨v0, rfl, v1, rfl, .inr ⟨v0, v1, d0, d1, D, rfl, h0, h1, rel, q⟩⟩
def spr_row_for (U : Ux K mg) : Sp := fun vs H _ E => ∃ (v0 v1 : V) (d0 d1 : PyData) (D : Addr), vs = [v0, v1] ∧ Dp K H v0 d0 ∧ Dp K H v1 d1 ∧ RG U d0 d1 D ∧ ∀ H', Same H H' → E (.ref D) none H'
theorem okr_row_for (T : Tx K mg) (U : Ux K mg) : FnOk P w K mg base (CXn P w) 9 T.f_row_for T.fd_row_for ["shelf", "doing"] (spr_row_for U) := by
  have GX_need_doing := okx_need_doing (P := P) (w := w) (base := base) T U
  refine funX T.F_row_for sc_row_for (fun vs H Q E h => ?_) (fun cdv A outer s H vs Q E hr h => ?_)
  · obtain ⟨_, _, _, _, _, rfl, _⟩ := h
    rfl
  · obtain ⟨v0, v1, d0, d1, D, rfl, h0, h1, rel, q⟩ := h
    refine ⟨_, (pss_cons (ps_expr (pe_call (GX_need_doing.mono (by first | decide | omega)) hr (by rfl) T.g_need_doing T.F_need_doing.kp T.b_need_doing .nil (L2N.passes_call (L2N.takes_of rfl rfl rfl rfl) fun _ _ _ _ h => h) (pa_cons (pv 0) (pa_cons (pv 1) pa_nil))))
      pss_never), ?_⟩
    exact ⟨v0, rfl, v1, rfl, .inr ⟨v0, v1, d0, d1, D, rfl, h0, h1, rel, q⟩⟩
def spr_stands (U : Ux K mg) : Sp := fun vs H _ E => ∃ (v0 : V) (d0 : PyData) (D : Addr), vs = [v0] ∧ Dp K H v0 d0 ∧ RSh U d0 D ∧ ∀ H', Same H H' → E (.ref D) none H'
theorem okr_stands (T : Tx K mg) (U : Ux K mg) : FnOk P w K mg base (CXn P w) 6 T.f_stands T.fd_stands ["shelf"] (spr_stands U) := by
  have GX_need_shelf := okx_need_shelf (P := P) (w := w) (base := base) T U
  refine funX T.F_stands sc_stands (fun vs H Q E h => ?_) (fun cdv A outer s H vs Q E hr h => ?_)
  · obtain ⟨_, _, _, rfl, _⟩ := h
    rfl
  · obtain ⟨v0, d0, D, rfl, h0, rel, q⟩ := h
    refine ⟨_, (pss_cons (ps_expr (pe_call (GX_need_shelf.mono (by first | decide | omega)) hr (by rfl) T.g_need_shelf T.F_need_shelf.kp T.b_need_shelf .nil (L2N.passes_call (L2N.takes_of rfl rfl rfl rfl) fun _ _ _ _ h => h) (pa_cons (pv 0) pa_nil)))
      pss_never), ?_⟩
    exact ⟨v0, rfl, .inr ⟨v0, d0, D, rfl, h0, rel, q⟩⟩
def spr_doings (U : Ux K mg) : Sp := fun vs H _ E => ∃ (v0 : V) (d0 : PyData) (D : Addr), vs = [v0] ∧ Dp K H v0 d0 ∧ RSh U d0 D ∧ ∀ H', Same H H' → E (.ref D) none H'
theorem okr_doings (T : Tx K mg) (U : Ux K mg) : FnOk P w K mg base (CXn P w) 6 T.f_doings T.fd_doings ["shelf"] (spr_doings U) := by
  have GX_need_shelf := okx_need_shelf (P := P) (w := w) (base := base) T U
  refine funX T.F_doings sc_doings (fun vs H Q E h => ?_) (fun cdv A outer s H vs Q E hr h => ?_)
  · obtain ⟨_, _, _, rfl, _⟩ := h
    rfl
  · obtain ⟨v0, d0, D, rfl, h0, rel, q⟩ := h
    refine ⟨_, (pss_cons (ps_expr (pe_call (GX_need_shelf.mono (by first | decide | omega)) hr (by rfl) T.g_need_shelf T.F_need_shelf.kp T.b_need_shelf .nil (L2N.passes_call (L2N.takes_of rfl rfl rfl rfl) fun _ _ _ _ h => h) (pa_cons (pv 0) pa_nil)))
      pss_never), ?_⟩
    exact ⟨v0, rfl, .inr ⟨v0, d0, D, rfl, h0, rel, q⟩⟩
def spr_Bench_init (U : Ux K mg) : Sp := fun vs H _ E => ∃ (x v0 v1 : V) (d0 d1 : PyData) (D : Addr), vs = [x, v0, v1] ∧ Dp K H v0 d0 ∧ Dp K H v1 d1 ∧ RS U d0 d1 D ∧ ∀ H', Same H H' → E (.ref D) none H'
theorem okr_Bench_init (T : Tx K mg) (U : Ux K mg) : FnOk P w K mg base (CXn P w) 8 T.f_Bench_init T.fd_Bench_init ["self", "shelf", "stand"] (spr_Bench_init U) := by
  have GX_need_stand := okx_need_stand (P := P) (w := w) (base := base) T U
  refine funX T.F_Bench_init sc_Bench_init (fun vs H Q E h => ?_) (fun cdv A outer s H vs Q E hr h => ?_)
  · obtain ⟨_, _, _, _, _, _, rfl, _⟩ := h
    rfl
  · obtain ⟨x, v0, v1, d0, d1, D, rfl, h0, h1, rel, q⟩ := h
    refine ⟨_, (pss_cons (ps_expr (pe_call (GX_need_stand.mono (by first | decide | omega)) hr (by rfl) T.g_need_stand T.F_need_stand.kp T.b_need_stand .nil (L2N.passes_call (L2N.takes_of rfl rfl rfl rfl) fun _ _ _ _ h => h) (pa_cons (pv 1) (pa_cons (pv 2) pa_nil))))
      pss_never), ?_⟩
    exact ⟨v0, rfl, v1, rfl, .inr ⟨v0, v1, d0, d1, D, rfl, h0, h1, rel, q⟩⟩
end PS

namespace PS
open PySem PySem.Spec PyProof.Rows L2 LamX HT L2H
variable {P : Program} {w : World} {K : PySem.W.Frag} {mg : Str → Option Value} {base : Heap}
/-! ### the defs that make lambdas -/
abbrev qS : Str := ("_law_by_stand" : Str) ++ ".<locals>." ++ "<lambda>"
abbrev qR : Str := ("_law_by_row" : Str) ++ ".<locals>." ++ "<lambda>"
abbrev qG : Str := ("_law_by_doing" : Str) ++ ".<locals>." ++ "<lambda>"
abbrev qH : Str := ("_law_by_shelf" : Str) ++ ".<locals>." ++ "<lambda>"
abbrev qL : Str := ("law" : Str) ++ ".<locals>." ++ "<lambda>"
def tabs5 (P1 P2 P3 P4 P5 : Addr) : List (Addr × Str) := [(P1, qS), (P2, qR), (P3, qG), (P4, qH), (P5, qL)]
structure Ly (base : Heap) (T : Tx K mg) (fl : Addr) where
  {c1 c2 c3 c4 c5 P1 P2 P3 P4 P5 : Addr}
  k1 : CodeAt K T.f_law_by_stand c1
  k2 : CodeAt K T.f_law_by_row c2
  k3 : CodeAt K T.f_law_by_doing c3
  k4 : CodeAt K T.f_law_by_shelf c4
  k5 : CodeAt K fl c5
  t1 : TabB base mg c1 P1
  t2 : TabB base mg c2 P2
  t3 : TabB base mg c3 P3
  t4 : TabB base mg c4 P4
  t5 : TabB base mg c5 P5
  nd : [P1, P2, P3, P4, P5].Nodup
theorem tabs_uniq {l : List (Addr × Str)} (nd : (l.map (·.1)).Nodup) {p : Addr} {q : Str} (h : (p, q) ∈ l) : ∀ x ∈ l, x.1 = p → x.2 = q := by
  induction l with
  | nil => cases h
  | cons a l ih =>
    rw [List.map_cons, List.nodup_cons] at nd
    intro x hx e
    rcases List.mem_cons.mp h with h | h
    · rcases List.mem_cons.mp hx with hx | hx
      · rw [hx, ← h]
      · exact absurd (List.mem_map.mpr ⟨x, hx, by rw [e, ← h]⟩) nd.1
    · rcases List.mem_cons.mp hx with hx | hx
      · exact absurd (List.mem_map.mpr ⟨(p, q), h, by rw [← e, hx]⟩) nd.1
      · exact ih nd.2 h x hx e
def Ly.tabs {T : Tx K mg} {fl : Addr} (L : Ly base T fl) : List (Addr × Str) := tabs5 L.P1 L.P2 L.P3 L.P4 L.P5
theorem Ly.u {T : Tx K mg} {fl : Addr} (L : Ly base T fl) {p : Addr} {q : Str} (h : (p, q) ∈ L.tabs) : ∀ x ∈ L.tabs, x.1 = p → x.2 = q := tabs_uniq (by
  unfold Ly.tabs tabs5
  exact L.nd) h
theorem Ly.m1 {T : Tx K mg} {fl : Addr} (L : Ly base T fl) : (L.P1, qS) ∈ L.tabs := by unfold Ly.tabs tabs5; exact .head _
theorem Ly.m2 {T : Tx K mg} {fl : Addr} (L : Ly base T fl) : (L.P2, qR) ∈ L.tabs := by unfold Ly.tabs tabs5; exact .tail _ (.head _)
theorem Ly.m3 {T : Tx K mg} {fl : Addr} (L : Ly base T fl) : (L.P3, qG) ∈ L.tabs := by unfold Ly.tabs tabs5; exact .tail _ (.tail _ (.head _))
theorem Ly.m4 {T : Tx K mg} {fl : Addr} (L : Ly base T fl) : (L.P4, qH) ∈ L.tabs := by unfold Ly.tabs tabs5; exact .tail _ (.tail _ (.tail _ (.head _)))
theorem Ly.m5 {T : Tx K mg} {fl : Addr} (L : Ly base T fl) : (L.P5, qL) ∈ L.tabs := by unfold Ly.tabs tabs5; exact .tail _ (.tail _ (.tail _ (.tail _ (.head _))))
/-! ### lambdas on their way -/
def LmAt (H : Hp) (f : Addr) (q : Str) (prm : Arguments) (body : Expr) (sc : Scope) (cl : List (Str × Addr)) : Prop := ∃ d, H f = some (LamO f q prm body sc cl d) ∧ H d = some (CodeO d q)
theorem LmAt.ext {H H' : Hp} {f : Addr} {q : Str} {prm : Arguments} {body : Expr} {sc : Scope} {cl : List (Str × Addr)} (h : LmAt H f q prm body sc cl) (e : ExtN H H') : LmAt H' f q prm body sc cl := by
  obtain ⟨d, h1, h2⟩ := h
  exact ⟨d, e _ _ h1 lamO_nt, e _ _ h2 codeO_ne⟩
theorem LmAt.put {H : Hp} {f p : Addr} {q : Str} {prm : Arguments} {body : Expr} {sc : Scope} {cl : List (Str × Addr)} {xs ys : List V} (h : LmAt H f q prm body sc cl) (hp : H p = some (.lst xs)) : LmAt (upd H p (.lst ys)) f q prm body sc cl := by
  obtain ⟨d, h1, h2⟩ := h
  refine ⟨d, ?_, ?_⟩
  · rw [upd_ne (ne_of h1 hp (by intro z; unfold LamO at z; cases z))]
    exact h1
  · rw [upd_ne (ne_of h2 hp (by intro z; unfold CodeO at z; cases z))]
    exact h2
theorem ext_put {H : Hp} {p : Addr} {xs ys : List V} {H0 : Hp} (e : ExtN H0 H) (n : H0 p = none) : ExtN H0 (upd H p (.lst ys)) := fun b o h t => by
  rw [upd_ne (ne_of_none h n)]
  exact e b o h t
theorem tabs_put {tb : List (Addr × Str)} {H : Hp} {p : Addr} {xs ys : List V} (t : Tabs tb H) (hp : H p = some (.lst xs)) : Tabs tb (upd H p (.lst ys)) :=
  tabs_off hp (fun ps z => by cases z) (fun φ z => by cases z) (offI_upd2 p H _) t
theorem free_ext {H H' : Hp} {p : Addr} (e : ExtN H H') (n : H' p = none) (t : ∀ ps, H p ≠ some (.tbl ps)) : H p = none := by
  cases z : H p with
  | none => rfl
  | some o =>
    rw [e p o z fun ps w => t ps (by rw [z, w])] at n
    cases n
/-- a table's place is never free -/
theorem tab_free {tb : List (Addr × Str)} {H : Hp} {p q : Addr} {x : Str} (t : Tabs tb H) (h : (q, x) ∈ tb) (n : H p = none) : p ≠ q := fun z => by
  obtain ⟨ps, h1, _⟩ := t _ h
  rw [← z, n] at h1
  cases h1
def capB (caps : List (Str × Nat)) (sc : Scope) : Bool := sc.names.all fun y => !decide (y.2 = .free) || caps.any fun p => p.1 == y.1
theorem cap_by {caps : List (Str × Nat)} {sc : Scope} (h : capB caps sc = true) : ∀ y ∈ sc.names, y.2 = .free → ∃ i, (y.1, i) ∈ caps := fun y hy e => by
  have z := List.all_eq_true.mp h y hy
  rw [e] at z
  simp only [decide_true, Bool.not_true, Bool.false_or] at z
  obtain ⟨p, hp, ep⟩ := List.any_eq_true.mp z
  exact ⟨p.2, by rw [← eq_of_beq ep]; exact hp⟩
/-- Bench(..) refused -/
def spm_Bench (U : Ux K mg) (C : Addr) : Sp := fun vs H Q E => ∀ x dx, H x = none → H dx = none → dx ≠ x → spr_Bench_init U (.ref x :: (vs ++ [])) (upd (upd H dx (.own x)) x (.ins C dx [])) (fun v H2 => v = .non ∧ Q (.ref x) H2) E
def sp_law_by_stand (P : Program) (w : World) (base : Heap) (T : Tx K mg) (U : Ux K mg) (tb : List (Addr × Str)) : Sp := fun vs H Q _ => ∃ (v0 v1 v2 : V), vs = [v0, v1, v2] ∧ Tabs tb H ∧ ∀ (H' : Hp) (p f0 f1 f2 f3 f4 : Addr), ExtN H H' → Tabs tb H' → H' p = some (.lst [.ref f0, .ref f1, .ref f2, .ref f3, .ref f4]) → Calls P w K mg base 12 (spr_behind U) [v0, v1, .non] f0 H' → Calls P w K mg base 12 (spr_fewest U) [v0, v1, v2] f1 H' → Calls P w K mg base 12 (spr_pushes_to U) [v0, v1, v2] f2 H' → Calls P w K mg base 12 (spr_leads U) [v0, v1, v2, .non] f3 H' → Calls P w K mg base 12 (spm_Bench U T.C_Bench) [v0, v1] f4 H' → Q (.ref p) H'
theorem ok_law_by_stand (T : Tx K mg) (U : Ux K mg) {fl : Addr} (L : Ly base T fl) : FnOk P w K mg base CX0 2 T.f_law_by_stand T.fd_law_by_stand ["shelf", "stand", "other"] (sp_law_by_stand P w base T U L.tabs) := by
  have GX_Bench_init := okr_Bench_init (P := P) (w := w) (base := base) T U
  have GX_behind := okr_behind (P := P) (w := w) (base := base) T U
  have GX_fewest := okr_fewest (P := P) (w := w) (base := base) T U
  have GX_leads := okr_leads (P := P) (w := w) (base := base) T U
  have GX_pushes_to := okr_pushes_to (P := P) (w := w) (base := base) T U
  have LT := L.t1
  have mT := L.m1
  have uT := L.u L.m1
  have hcap : ∀ p ∈ ([("shelf", 0), ("stand", 1), ("other", 2)] : List (Str × Nat)), [("shelf" : Str), ("stand" : Str), ("other" : Str), ("found" : Str)][p.2]? = some p.1 ∧ (defScope s_law_by_stand).names.lookup p.1 = some .cell := fun p hp => by
    rcases List.mem_cons.mp hp with rfl | hp
    · exact ⟨rfl, by decide +kernel⟩
    rcases List.mem_cons.mp hp with rfl | hp
    · exact ⟨rfl, by decide +kernel⟩
    rcases List.mem_cons.mp hp with rfl | hp
    · exact ⟨rfl, by decide +kernel⟩
    cases hp
  refine funC [("shelf", 0), ("stand", 1), ("other", 2)] T.F_law_by_stand L.k1 sc_law_by_stand (fun vs H Q E h => ?_) hcap (fun A outer s H vs Q E hr h => ?_)
  · obtain ⟨_, _, _, rfl, _⟩ := h
    rfl
  · obtain ⟨v0, v1, v2, rfl, hT, q⟩ := h
    refine ⟨_, (psr_cons (ps_set (i := 3) sc_law_by_stand.nd rfl (.inl rfl) (pe_lst (pa_cons (pe_lamV (T := L.tabs) LT rfl mT uT (lamS_by (sc := defScope s_law_by_stand) (by decide +kernel)) rfl) pa_nil)))
      (psr_cons (ps_expr (pe_bm PySem.F.plainAttrs_list PySem.F.slot_list_append PySem.F.type_list_append mt_append (pv 3) (pa_cons (pe_lamV (T := L.tabs) LT rfl mT uT (lamS_by (sc := defScope s_law_by_stand) (by decide +kernel)) rfl) pa_nil)))
      (psr_cons (ps_expr (pe_bm PySem.F.plainAttrs_list PySem.F.slot_list_append PySem.F.type_list_append mt_append (pv 3) (pa_cons (pe_lamV (T := L.tabs) LT rfl mT uT (lamS_by (sc := defScope s_law_by_stand) (by decide +kernel)) rfl) pa_nil)))
      (psr_cons (ps_expr (pe_bm PySem.F.plainAttrs_list PySem.F.slot_list_append PySem.F.type_list_append mt_append (pv 3) (pa_cons (pe_lamV (T := L.tabs) LT rfl mT uT (lamS_by (sc := defScope s_law_by_stand) (by decide +kernel)) rfl) pa_nil)))
      (psr_cons (ps_expr (pe_bm PySem.F.plainAttrs_list PySem.F.slot_list_append PySem.F.type_list_append mt_append (pv 3) (pa_cons (pe_lamV (T := L.tabs) LT rfl mT uT (lamS_by (sc := defScope s_law_by_stand) (by decide +kernel)) rfl) pa_nil)))
      (psr_ret (pv 3))))))), ?_⟩
    refine ⟨hT, fun f0 d0 H0 e0 g0 T0 n0 hf0 hd0 => ⟨by show 1 ≤ sizeLine; decide, fun p np => ?_⟩⟩
    have l0 : LmAt H0 f0 _ _ _ _ _ := ⟨d0, hf0, hd0⟩
    have sm := same_new (o := .lst [.ref f0]) np
    have l0 := l0.ext (ExtN.of sm)
    have hp : upd H0 p (.lst [.ref f0]) p = some (.lst [.ref f0]) := upd_same
    have t0 := T0.ext sm
    have npH : H p = none := g0 p np
    have x0 := e0.trans (ExtN.of sm)
    generalize upd H0 p (.lst [.ref f0]) = G0 at *
    refine ⟨_, rfl, .inl ⟨rfl, _, .inl (.inl hp)⟩, t0, fun f1 d1 H1 e1 g1 T1 n1 hf1 hd1 => ?_⟩
    have hp := e1 _ _ hp (fun ps z => by cases z)
    refine ⟨p, _, _, rfl, rfl, hp, by show 1 < sizeLine; decide, ?_⟩
    have l1 : LmAt H1 f1 _ _ _ _ _ := ⟨d1, hf1, hd1⟩
    have l1 := l1.put (ys := [.ref f0, .ref f1]) hp
    have l0 := (l0.ext e1).put (ys := [.ref f0, .ref f1]) hp
    have t1 := tabs_put (ys := [.ref f0, .ref f1]) T1 hp
    have x1 := ext_put (xs := []) (ys := [.ref f0, .ref f1]) (x0.trans e1) npH
    have hp : upd H1 p (.lst [.ref f0, .ref f1]) p = some (.lst [.ref f0, .ref f1]) := upd_same
    rw [show [.ref f0] ++ [V.ref f1] = [.ref f0, .ref f1] from rfl]
    generalize upd H1 p (.lst [.ref f0, .ref f1]) = G1 at *
    refine ⟨_, rfl, .inl ⟨rfl, _, .inl (.inl hp)⟩, t1, fun f2 d2 H2 e2 g2 T2 n2 hf2 hd2 => ?_⟩
    have hp := e2 _ _ hp (fun ps z => by cases z)
    refine ⟨p, _, _, rfl, rfl, hp, by show 2 < sizeLine; decide, ?_⟩
    have l2 : LmAt H2 f2 _ _ _ _ _ := ⟨d2, hf2, hd2⟩
    have l2 := l2.put (ys := [.ref f0, .ref f1, .ref f2]) hp
    have l0 := (l0.ext e2).put (ys := [.ref f0, .ref f1, .ref f2]) hp
    have l1 := (l1.ext e2).put (ys := [.ref f0, .ref f1, .ref f2]) hp
    have t2 := tabs_put (ys := [.ref f0, .ref f1, .ref f2]) T2 hp
    have x2 := ext_put (xs := []) (ys := [.ref f0, .ref f1, .ref f2]) (x1.trans e2) npH
    have hp : upd H2 p (.lst [.ref f0, .ref f1, .ref f2]) p = some (.lst [.ref f0, .ref f1, .ref f2]) := upd_same
    rw [show [.ref f0, .ref f1] ++ [V.ref f2] = [.ref f0, .ref f1, .ref f2] from rfl]
    generalize upd H2 p (.lst [.ref f0, .ref f1, .ref f2]) = G2 at *
    refine ⟨_, rfl, .inl ⟨rfl, _, .inl (.inl hp)⟩, t2, fun f3 d3 H3 e3 g3 T3 n3 hf3 hd3 => ?_⟩
    have hp := e3 _ _ hp (fun ps z => by cases z)
    refine ⟨p, _, _, rfl, rfl, hp, by show 3 < sizeLine; decide, ?_⟩
    have l3 : LmAt H3 f3 _ _ _ _ _ := ⟨d3, hf3, hd3⟩
    have l3 := l3.put (ys := [.ref f0, .ref f1, .ref f2, .ref f3]) hp
    have l0 := (l0.ext e3).put (ys := [.ref f0, .ref f1, .ref f2, .ref f3]) hp
    have l1 := (l1.ext e3).put (ys := [.ref f0, .ref f1, .ref f2, .ref f3]) hp
    have l2 := (l2.ext e3).put (ys := [.ref f0, .ref f1, .ref f2, .ref f3]) hp
    have t3 := tabs_put (ys := [.ref f0, .ref f1, .ref f2, .ref f3]) T3 hp
    have x3 := ext_put (xs := []) (ys := [.ref f0, .ref f1, .ref f2, .ref f3]) (x2.trans e3) npH
    have hp : upd H3 p (.lst [.ref f0, .ref f1, .ref f2, .ref f3]) p = some (.lst [.ref f0, .ref f1, .ref f2, .ref f3]) := upd_same
    rw [show [.ref f0, .ref f1, .ref f2] ++ [V.ref f3] = [.ref f0, .ref f1, .ref f2, .ref f3] from rfl]
    generalize upd H3 p (.lst [.ref f0, .ref f1, .ref f2, .ref f3]) = G3 at *
    refine ⟨_, rfl, .inl ⟨rfl, _, .inl (.inl hp)⟩, t3, fun f4 d4 H4 e4 g4 T4 n4 hf4 hd4 => ?_⟩
    have hp := e4 _ _ hp (fun ps z => by cases z)
    refine ⟨p, _, _, rfl, rfl, hp, by show 4 < sizeLine; decide, ?_⟩
    have l4 : LmAt H4 f4 _ _ _ _ _ := ⟨d4, hf4, hd4⟩
    have l4 := l4.put (ys := [.ref f0, .ref f1, .ref f2, .ref f3, .ref f4]) hp
    have l0 := (l0.ext e4).put (ys := [.ref f0, .ref f1, .ref f2, .ref f3, .ref f4]) hp
    have l1 := (l1.ext e4).put (ys := [.ref f0, .ref f1, .ref f2, .ref f3, .ref f4]) hp
    have l2 := (l2.ext e4).put (ys := [.ref f0, .ref f1, .ref f2, .ref f3, .ref f4]) hp
    have l3 := (l3.ext e4).put (ys := [.ref f0, .ref f1, .ref f2, .ref f3, .ref f4]) hp
    have t4 := tabs_put (ys := [.ref f0, .ref f1, .ref f2, .ref f3, .ref f4]) T4 hp
    have x4 := ext_put (xs := []) (ys := [.ref f0, .ref f1, .ref f2, .ref f3, .ref f4]) (x3.trans e4) npH
    have hp : upd H4 p (.lst [.ref f0, .ref f1, .ref f2, .ref f3, .ref f4]) p = some (.lst [.ref f0, .ref f1, .ref f2, .ref f3, .ref f4]) := upd_same
    rw [show [.ref f0, .ref f1, .ref f2, .ref f3] ++ [V.ref f4] = [.ref f0, .ref f1, .ref f2, .ref f3, .ref f4] from rfl]
    generalize upd H4 p (.lst [.ref f0, .ref f1, .ref f2, .ref f3, .ref f4]) = G4 at *
    refine ⟨_, rfl, fun ck hc => ?_⟩
    have sk := keepC_same (csOf_free (caps := [("shelf", 0), ("stand", 1), ("other", 2)]) (σ := [some v0, some v1, some v2, some (.ref p)]) ck)
    have hσ : ∀ p_1 ∈ ([("shelf", 0), ("stand", 1), ("other", 2)] : List (Str × Nat)), ∃ v, ([some v0, some v1, some v2, some (.ref p)] : L2.St)[p_1.2]? = some (some v) := fun p_1 hp_1 => by
      rcases List.mem_cons.mp hp_1 with rfl | hp_1
      · exact ⟨_, rfl⟩
      rcases List.mem_cons.mp hp_1 with rfl | hp_1
      · exact ⟨_, rfl⟩
      rcases List.mem_cons.mp hp_1 with rfl | hp_1
      · exact ⟨_, rfl⟩
      cases hp_1
    obtain ⟨b0, lf0, ld0⟩ := l0
    obtain ⟨b1, lf1, ld1⟩ := l1
    obtain ⟨b2, lf2, ld2⟩ := l2
    obtain ⟨b3, lf3, ld3⟩ := l3
    obtain ⟨b4, lf4, ld4⟩ := l4
    refine q _ p f0 f1 f2 f3 f4 (x4.trans (ExtN.of sk)) (t4.ext sk) (sk _ _ hp) ?_ ?_ ?_ ?_ ?_
    · refine ⟨_, _, _, _, defScope s_law_by_stand, [("shelf" : Str), ("stand" : Str), ("other" : Str), ("found" : Str)], _, _, clo_of sc_law_by_stand.nd ck lf0 ld0 (fun p hp => (hcap p hp).1) hc hσ (cap_by (by decide +kernel)), lamS_by (by decide +kernel), rfl, sc_law_by_stand.nd, fun _ _ _ _ => rfl, fun cl c A outer s H E hr => (pe_call (GX_behind.mono (by first | decide | omega)) hr (by rfl) T.g_behind T.F_behind.kp T.b_behind .nil passC (pa_cons (pv 0) (pa_cons (pv 1) (pa_cons pe_non pa_nil)))), ?_⟩
      exact fun H' Q E h => ⟨_, rfl, _, rfl, h⟩
    · refine ⟨_, _, _, _, defScope s_law_by_stand, [("shelf" : Str), ("stand" : Str), ("other" : Str), ("found" : Str)], _, _, clo_of sc_law_by_stand.nd ck lf1 ld1 (fun p hp => (hcap p hp).1) hc hσ (cap_by (by decide +kernel)), lamS_by (by decide +kernel), rfl, sc_law_by_stand.nd, fun _ _ _ _ => rfl, fun cl c A outer s H E hr => (pe_call (GX_fewest.mono (by first | decide | omega)) hr (by rfl) T.g_fewest T.F_fewest.kp T.b_fewest .nil passC (pa_cons (pv 0) (pa_cons (pv 1) (pa_cons (pv 2) pa_nil)))), ?_⟩
      exact fun H' Q E h => ⟨_, rfl, _, rfl, _, rfl, h⟩
    · refine ⟨_, _, _, _, defScope s_law_by_stand, [("shelf" : Str), ("stand" : Str), ("other" : Str), ("found" : Str)], _, _, clo_of sc_law_by_stand.nd ck lf2 ld2 (fun p hp => (hcap p hp).1) hc hσ (cap_by (by decide +kernel)), lamS_by (by decide +kernel), rfl, sc_law_by_stand.nd, fun _ _ _ _ => rfl, fun cl c A outer s H E hr => (pe_call (GX_pushes_to.mono (by first | decide | omega)) hr (by rfl) T.g_pushes_to T.F_pushes_to.kp T.b_pushes_to .nil passC (pa_cons (pv 0) (pa_cons (pv 1) (pa_cons (pv 2) pa_nil)))), ?_⟩
      exact fun H' Q E h => ⟨_, rfl, _, rfl, _, rfl, h⟩
    · refine ⟨_, _, _, _, defScope s_law_by_stand, [("shelf" : Str), ("stand" : Str), ("other" : Str), ("found" : Str)], _, _, clo_of sc_law_by_stand.nd ck lf3 ld3 (fun p hp => (hcap p hp).1) hc hσ (cap_by (by decide +kernel)), lamS_by (by decide +kernel), rfl, sc_law_by_stand.nd, fun _ _ _ _ => rfl, fun cl c A outer s H E hr => (pe_call (GX_leads.mono (by first | decide | omega)) hr (by rfl) T.g_leads T.F_leads.kp T.b_leads .nil passC (pa_cons (pv 0) (pa_cons (pv 1) (pa_cons (pv 2) (pa_cons pe_non pa_nil))))), ?_⟩
      exact fun H' Q E h => ⟨_, rfl, _, rfl, _, rfl, h⟩
    · refine ⟨_, _, _, _, defScope s_law_by_stand, [("shelf" : Str), ("stand" : Str), ("other" : Str), ("found" : Str)], _, _, clo_of sc_law_by_stand.nd ck lf4 ld4 (fun p hp => (hcap p hp).1) hc hσ (cap_by (by decide +kernel)), lamS_by (by decide +kernel), rfl, sc_law_by_stand.nd, fun _ _ _ _ => rfl, fun cl c A outer s H E hr => (pe_make T.mk_Bench (GX_Bench_init.mono (by first | decide | omega)) hr (by rfl) T.g_Bench T.b_Bench_init .nil passC (pa_cons (pv 0) (pa_cons (pv 1) pa_nil))), ?_⟩
      exact fun H' Q E h => ⟨_, rfl, _, rfl, h⟩
def sp_law_by_row (P : Program) (w : World) (base : Heap) (T : Tx K mg) (U : Ux K mg) (tb : List (Addr × Str)) : Sp := fun vs H Q _ => ∃ (v0 v1 v2 : V), vs = [v0, v1, v2] ∧ Tabs tb H ∧ ∀ (H' : Hp) (p f0 f1 f2 : Addr), ExtN H H' → Tabs tb H' → H' p = some (.lst [.ref f0, .ref f1, .ref f2]) → Calls P w K mg base 12 (spr_doing_of U) [v0, v1] f0 H' → Calls P w K mg base 12 (spr_alike U) [v0, v1, v2] f1 H' → Calls P w K mg base 12 (spr_parted U) [v0, v1, v2] f2 H' → Q (.ref p) H'
theorem ok_law_by_row (T : Tx K mg) (U : Ux K mg) {fl : Addr} (L : Ly base T fl) : FnOk P w K mg base CX0 2 T.f_law_by_row T.fd_law_by_row ["shelf", "row", "other"] (sp_law_by_row P w base T U L.tabs) := by
  have GX_alike := okr_alike (P := P) (w := w) (base := base) T U
  have GX_doing_of := okr_doing_of (P := P) (w := w) (base := base) T U
  have GX_parted := okr_parted (P := P) (w := w) (base := base) T U
  have LT := L.t2
  have mT := L.m2
  have uT := L.u L.m2
  have hcap : ∀ p ∈ ([("shelf", 0), ("row", 1), ("other", 2)] : List (Str × Nat)), [("shelf" : Str), ("row" : Str), ("other" : Str), ("found" : Str)][p.2]? = some p.1 ∧ (defScope s_law_by_row).names.lookup p.1 = some .cell := fun p hp => by
    rcases List.mem_cons.mp hp with rfl | hp
    · exact ⟨rfl, by decide +kernel⟩
    rcases List.mem_cons.mp hp with rfl | hp
    · exact ⟨rfl, by decide +kernel⟩
    rcases List.mem_cons.mp hp with rfl | hp
    · exact ⟨rfl, by decide +kernel⟩
    cases hp
  refine funC [("shelf", 0), ("row", 1), ("other", 2)] T.F_law_by_row L.k2 sc_law_by_row (fun vs H Q E h => ?_) hcap (fun A outer s H vs Q E hr h => ?_)
  · obtain ⟨_, _, _, rfl, _⟩ := h
    rfl
  · obtain ⟨v0, v1, v2, rfl, hT, q⟩ := h
    refine ⟨_, (psr_cons (ps_set (i := 3) sc_law_by_row.nd rfl (.inl rfl) (pe_lst (pa_cons (pe_lamV (T := L.tabs) LT rfl mT uT (lamS_by (sc := defScope s_law_by_row) (by decide +kernel)) rfl) pa_nil)))
      (psr_cons (ps_expr (pe_bm PySem.F.plainAttrs_list PySem.F.slot_list_append PySem.F.type_list_append mt_append (pv 3) (pa_cons (pe_lamV (T := L.tabs) LT rfl mT uT (lamS_by (sc := defScope s_law_by_row) (by decide +kernel)) rfl) pa_nil)))
      (psr_cons (ps_expr (pe_bm PySem.F.plainAttrs_list PySem.F.slot_list_append PySem.F.type_list_append mt_append (pv 3) (pa_cons (pe_lamV (T := L.tabs) LT rfl mT uT (lamS_by (sc := defScope s_law_by_row) (by decide +kernel)) rfl) pa_nil)))
      (psr_ret (pv 3))))), ?_⟩
    refine ⟨hT, fun f0 d0 H0 e0 g0 T0 n0 hf0 hd0 => ⟨by show 1 ≤ sizeLine; decide, fun p np => ?_⟩⟩
    have l0 : LmAt H0 f0 _ _ _ _ _ := ⟨d0, hf0, hd0⟩
    have sm := same_new (o := .lst [.ref f0]) np
    have l0 := l0.ext (ExtN.of sm)
    have hp : upd H0 p (.lst [.ref f0]) p = some (.lst [.ref f0]) := upd_same
    have t0 := T0.ext sm
    have npH : H p = none := g0 p np
    have x0 := e0.trans (ExtN.of sm)
    generalize upd H0 p (.lst [.ref f0]) = G0 at *
    refine ⟨_, rfl, .inl ⟨rfl, _, .inl (.inl hp)⟩, t0, fun f1 d1 H1 e1 g1 T1 n1 hf1 hd1 => ?_⟩
    have hp := e1 _ _ hp (fun ps z => by cases z)
    refine ⟨p, _, _, rfl, rfl, hp, by show 1 < sizeLine; decide, ?_⟩
    have l1 : LmAt H1 f1 _ _ _ _ _ := ⟨d1, hf1, hd1⟩
    have l1 := l1.put (ys := [.ref f0, .ref f1]) hp
    have l0 := (l0.ext e1).put (ys := [.ref f0, .ref f1]) hp
    have t1 := tabs_put (ys := [.ref f0, .ref f1]) T1 hp
    have x1 := ext_put (xs := []) (ys := [.ref f0, .ref f1]) (x0.trans e1) npH
    have hp : upd H1 p (.lst [.ref f0, .ref f1]) p = some (.lst [.ref f0, .ref f1]) := upd_same
    rw [show [.ref f0] ++ [V.ref f1] = [.ref f0, .ref f1] from rfl]
    generalize upd H1 p (.lst [.ref f0, .ref f1]) = G1 at *
    refine ⟨_, rfl, .inl ⟨rfl, _, .inl (.inl hp)⟩, t1, fun f2 d2 H2 e2 g2 T2 n2 hf2 hd2 => ?_⟩
    have hp := e2 _ _ hp (fun ps z => by cases z)
    refine ⟨p, _, _, rfl, rfl, hp, by show 2 < sizeLine; decide, ?_⟩
    have l2 : LmAt H2 f2 _ _ _ _ _ := ⟨d2, hf2, hd2⟩
    have l2 := l2.put (ys := [.ref f0, .ref f1, .ref f2]) hp
    have l0 := (l0.ext e2).put (ys := [.ref f0, .ref f1, .ref f2]) hp
    have l1 := (l1.ext e2).put (ys := [.ref f0, .ref f1, .ref f2]) hp
    have t2 := tabs_put (ys := [.ref f0, .ref f1, .ref f2]) T2 hp
    have x2 := ext_put (xs := []) (ys := [.ref f0, .ref f1, .ref f2]) (x1.trans e2) npH
    have hp : upd H2 p (.lst [.ref f0, .ref f1, .ref f2]) p = some (.lst [.ref f0, .ref f1, .ref f2]) := upd_same
    rw [show [.ref f0, .ref f1] ++ [V.ref f2] = [.ref f0, .ref f1, .ref f2] from rfl]
    generalize upd H2 p (.lst [.ref f0, .ref f1, .ref f2]) = G2 at *
    refine ⟨_, rfl, fun ck hc => ?_⟩
    have sk := keepC_same (csOf_free (caps := [("shelf", 0), ("row", 1), ("other", 2)]) (σ := [some v0, some v1, some v2, some (.ref p)]) ck)
    have hσ : ∀ p_1 ∈ ([("shelf", 0), ("row", 1), ("other", 2)] : List (Str × Nat)), ∃ v, ([some v0, some v1, some v2, some (.ref p)] : L2.St)[p_1.2]? = some (some v) := fun p_1 hp_1 => by
      rcases List.mem_cons.mp hp_1 with rfl | hp_1
      · exact ⟨_, rfl⟩
      rcases List.mem_cons.mp hp_1 with rfl | hp_1
      · exact ⟨_, rfl⟩
      rcases List.mem_cons.mp hp_1 with rfl | hp_1
      · exact ⟨_, rfl⟩
      cases hp_1
    obtain ⟨b0, lf0, ld0⟩ := l0
    obtain ⟨b1, lf1, ld1⟩ := l1
    obtain ⟨b2, lf2, ld2⟩ := l2
    refine q _ p f0 f1 f2 (x2.trans (ExtN.of sk)) (t2.ext sk) (sk _ _ hp) ?_ ?_ ?_
    · refine ⟨_, _, _, _, defScope s_law_by_row, [("shelf" : Str), ("row" : Str), ("other" : Str), ("found" : Str)], _, _, clo_of sc_law_by_row.nd ck lf0 ld0 (fun p hp => (hcap p hp).1) hc hσ (cap_by (by decide +kernel)), lamS_by (by decide +kernel), rfl, sc_law_by_row.nd, fun _ _ _ _ => rfl, fun cl c A outer s H E hr => (pe_call (GX_doing_of.mono (by first | decide | omega)) hr (by rfl) T.g_doing_of T.F_doing_of.kp T.b_doing_of .nil passC (pa_cons (pv 0) (pa_cons (pv 1) pa_nil))), ?_⟩
      exact fun H' Q E h => ⟨_, rfl, _, rfl, h⟩
    · refine ⟨_, _, _, _, defScope s_law_by_row, [("shelf" : Str), ("row" : Str), ("other" : Str), ("found" : Str)], _, _, clo_of sc_law_by_row.nd ck lf1 ld1 (fun p hp => (hcap p hp).1) hc hσ (cap_by (by decide +kernel)), lamS_by (by decide +kernel), rfl, sc_law_by_row.nd, fun _ _ _ _ => rfl, fun cl c A outer s H E hr => (pe_call (GX_alike.mono (by first | decide | omega)) hr (by rfl) T.g_alike T.F_alike.kp T.b_alike .nil passC (pa_cons (pv 0) (pa_cons (pv 1) (pa_cons (pv 2) pa_nil)))), ?_⟩
      exact fun H' Q E h => ⟨_, rfl, _, rfl, _, rfl, h⟩
    · refine ⟨_, _, _, _, defScope s_law_by_row, [("shelf" : Str), ("row" : Str), ("other" : Str), ("found" : Str)], _, _, clo_of sc_law_by_row.nd ck lf2 ld2 (fun p hp => (hcap p hp).1) hc hσ (cap_by (by decide +kernel)), lamS_by (by decide +kernel), rfl, sc_law_by_row.nd, fun _ _ _ _ => rfl, fun cl c A outer s H E hr => (pe_call (GX_parted.mono (by first | decide | omega)) hr (by rfl) T.g_parted T.F_parted.kp T.b_parted .nil passC (pa_cons (pv 0) (pa_cons (pv 1) (pa_cons (pv 2) pa_nil)))), ?_⟩
      exact fun H' Q E h => ⟨_, rfl, _, rfl, _, rfl, h⟩
def sp_law_by_doing (P : Program) (w : World) (base : Heap) (T : Tx K mg) (U : Ux K mg) (tb : List (Addr × Str)) : Sp := fun vs H Q _ => ∃ (v0 v1 v2 : V), vs = [v0, v1, v2] ∧ Tabs tb H ∧ ∀ (H' : Hp) (p f0 f1 f2 f3 : Addr), ExtN H H' → Tabs tb H' → H' p = some (.lst [.ref f0, .ref f1, .ref f2, .ref f3]) → Calls P w K mg base 12 (spr_row_for U) [v0, v1] f0 H' → Calls P w K mg base 12 (spr_led U) [v0, v1, .non] f1 H' → Calls P w K mg base 12 (spr_leading U) [v0, v1, .non] f2 H' → Calls P w K mg base 12 (spr_joined U) [v0, v1, v2] f3 H' → Q (.ref p) H'
theorem ok_law_by_doing (T : Tx K mg) (U : Ux K mg) {fl : Addr} (L : Ly base T fl) : FnOk P w K mg base CX0 2 T.f_law_by_doing T.fd_law_by_doing ["shelf", "doing", "other"] (sp_law_by_doing P w base T U L.tabs) := by
  have GX_joined := okr_joined (P := P) (w := w) (base := base) T U
  have GX_leading := okr_leading (P := P) (w := w) (base := base) T U
  have GX_led := okr_led (P := P) (w := w) (base := base) T U
  have GX_row_for := okr_row_for (P := P) (w := w) (base := base) T U
  have LT := L.t3
  have mT := L.m3
  have uT := L.u L.m3
  have hcap : ∀ p ∈ ([("shelf", 0), ("doing", 1), ("other", 2)] : List (Str × Nat)), [("shelf" : Str), ("doing" : Str), ("other" : Str), ("found" : Str)][p.2]? = some p.1 ∧ (defScope s_law_by_doing).names.lookup p.1 = some .cell := fun p hp => by
    rcases List.mem_cons.mp hp with rfl | hp
    · exact ⟨rfl, by decide +kernel⟩
    rcases List.mem_cons.mp hp with rfl | hp
    · exact ⟨rfl, by decide +kernel⟩
    rcases List.mem_cons.mp hp with rfl | hp
    · exact ⟨rfl, by decide +kernel⟩
    cases hp
  refine funC [("shelf", 0), ("doing", 1), ("other", 2)] T.F_law_by_doing L.k3 sc_law_by_doing (fun vs H Q E h => ?_) hcap (fun A outer s H vs Q E hr h => ?_)
  · obtain ⟨_, _, _, rfl, _⟩ := h
    rfl
  · obtain ⟨v0, v1, v2, rfl, hT, q⟩ := h
    refine ⟨_, (psr_cons (ps_set (i := 3) sc_law_by_doing.nd rfl (.inl rfl) (pe_lst (pa_cons (pe_lamV (T := L.tabs) LT rfl mT uT (lamS_by (sc := defScope s_law_by_doing) (by decide +kernel)) rfl) pa_nil)))
      (psr_cons (ps_expr (pe_bm PySem.F.plainAttrs_list PySem.F.slot_list_append PySem.F.type_list_append mt_append (pv 3) (pa_cons (pe_lamV (T := L.tabs) LT rfl mT uT (lamS_by (sc := defScope s_law_by_doing) (by decide +kernel)) rfl) pa_nil)))
      (psr_cons (ps_expr (pe_bm PySem.F.plainAttrs_list PySem.F.slot_list_append PySem.F.type_list_append mt_append (pv 3) (pa_cons (pe_lamV (T := L.tabs) LT rfl mT uT (lamS_by (sc := defScope s_law_by_doing) (by decide +kernel)) rfl) pa_nil)))
      (psr_cons (ps_expr (pe_bm PySem.F.plainAttrs_list PySem.F.slot_list_append PySem.F.type_list_append mt_append (pv 3) (pa_cons (pe_lamV (T := L.tabs) LT rfl mT uT (lamS_by (sc := defScope s_law_by_doing) (by decide +kernel)) rfl) pa_nil)))
      (psr_ret (pv 3)))))), ?_⟩
    refine ⟨hT, fun f0 d0 H0 e0 g0 T0 n0 hf0 hd0 => ⟨by show 1 ≤ sizeLine; decide, fun p np => ?_⟩⟩
    have l0 : LmAt H0 f0 _ _ _ _ _ := ⟨d0, hf0, hd0⟩
    have sm := same_new (o := .lst [.ref f0]) np
    have l0 := l0.ext (ExtN.of sm)
    have hp : upd H0 p (.lst [.ref f0]) p = some (.lst [.ref f0]) := upd_same
    have t0 := T0.ext sm
    have npH : H p = none := g0 p np
    have x0 := e0.trans (ExtN.of sm)
    generalize upd H0 p (.lst [.ref f0]) = G0 at *
    refine ⟨_, rfl, .inl ⟨rfl, _, .inl (.inl hp)⟩, t0, fun f1 d1 H1 e1 g1 T1 n1 hf1 hd1 => ?_⟩
    have hp := e1 _ _ hp (fun ps z => by cases z)
    refine ⟨p, _, _, rfl, rfl, hp, by show 1 < sizeLine; decide, ?_⟩
    have l1 : LmAt H1 f1 _ _ _ _ _ := ⟨d1, hf1, hd1⟩
    have l1 := l1.put (ys := [.ref f0, .ref f1]) hp
    have l0 := (l0.ext e1).put (ys := [.ref f0, .ref f1]) hp
    have t1 := tabs_put (ys := [.ref f0, .ref f1]) T1 hp
    have x1 := ext_put (xs := []) (ys := [.ref f0, .ref f1]) (x0.trans e1) npH
    have hp : upd H1 p (.lst [.ref f0, .ref f1]) p = some (.lst [.ref f0, .ref f1]) := upd_same
    rw [show [.ref f0] ++ [V.ref f1] = [.ref f0, .ref f1] from rfl]
    generalize upd H1 p (.lst [.ref f0, .ref f1]) = G1 at *
    refine ⟨_, rfl, .inl ⟨rfl, _, .inl (.inl hp)⟩, t1, fun f2 d2 H2 e2 g2 T2 n2 hf2 hd2 => ?_⟩
    have hp := e2 _ _ hp (fun ps z => by cases z)
    refine ⟨p, _, _, rfl, rfl, hp, by show 2 < sizeLine; decide, ?_⟩
    have l2 : LmAt H2 f2 _ _ _ _ _ := ⟨d2, hf2, hd2⟩
    have l2 := l2.put (ys := [.ref f0, .ref f1, .ref f2]) hp
    have l0 := (l0.ext e2).put (ys := [.ref f0, .ref f1, .ref f2]) hp
    have l1 := (l1.ext e2).put (ys := [.ref f0, .ref f1, .ref f2]) hp
    have t2 := tabs_put (ys := [.ref f0, .ref f1, .ref f2]) T2 hp
    have x2 := ext_put (xs := []) (ys := [.ref f0, .ref f1, .ref f2]) (x1.trans e2) npH
    have hp : upd H2 p (.lst [.ref f0, .ref f1, .ref f2]) p = some (.lst [.ref f0, .ref f1, .ref f2]) := upd_same
    rw [show [.ref f0, .ref f1] ++ [V.ref f2] = [.ref f0, .ref f1, .ref f2] from rfl]
    generalize upd H2 p (.lst [.ref f0, .ref f1, .ref f2]) = G2 at *
    refine ⟨_, rfl, .inl ⟨rfl, _, .inl (.inl hp)⟩, t2, fun f3 d3 H3 e3 g3 T3 n3 hf3 hd3 => ?_⟩
    have hp := e3 _ _ hp (fun ps z => by cases z)
    refine ⟨p, _, _, rfl, rfl, hp, by show 3 < sizeLine; decide, ?_⟩
    have l3 : LmAt H3 f3 _ _ _ _ _ := ⟨d3, hf3, hd3⟩
    have l3 := l3.put (ys := [.ref f0, .ref f1, .ref f2, .ref f3]) hp
    have l0 := (l0.ext e3).put (ys := [.ref f0, .ref f1, .ref f2, .ref f3]) hp
    have l1 := (l1.ext e3).put (ys := [.ref f0, .ref f1, .ref f2, .ref f3]) hp
    have l2 := (l2.ext e3).put (ys := [.ref f0, .ref f1, .ref f2, .ref f3]) hp
    have t3 := tabs_put (ys := [.ref f0, .ref f1, .ref f2, .ref f3]) T3 hp
    have x3 := ext_put (xs := []) (ys := [.ref f0, .ref f1, .ref f2, .ref f3]) (x2.trans e3) npH
    have hp : upd H3 p (.lst [.ref f0, .ref f1, .ref f2, .ref f3]) p = some (.lst [.ref f0, .ref f1, .ref f2, .ref f3]) := upd_same
    rw [show [.ref f0, .ref f1, .ref f2] ++ [V.ref f3] = [.ref f0, .ref f1, .ref f2, .ref f3] from rfl]
    generalize upd H3 p (.lst [.ref f0, .ref f1, .ref f2, .ref f3]) = G3 at *
    refine ⟨_, rfl, fun ck hc => ?_⟩
    have sk := keepC_same (csOf_free (caps := [("shelf", 0), ("doing", 1), ("other", 2)]) (σ := [some v0, some v1, some v2, some (.ref p)]) ck)
    have hσ : ∀ p_1 ∈ ([("shelf", 0), ("doing", 1), ("other", 2)] : List (Str × Nat)), ∃ v, ([some v0, some v1, some v2, some (.ref p)] : L2.St)[p_1.2]? = some (some v) := fun p_1 hp_1 => by
      rcases List.mem_cons.mp hp_1 with rfl | hp_1
      · exact ⟨_, rfl⟩
      rcases List.mem_cons.mp hp_1 with rfl | hp_1
      · exact ⟨_, rfl⟩
      rcases List.mem_cons.mp hp_1 with rfl | hp_1
      · exact ⟨_, rfl⟩
      cases hp_1
    obtain ⟨b0, lf0, ld0⟩ := l0
    obtain ⟨b1, lf1, ld1⟩ := l1
    obtain ⟨b2, lf2, ld2⟩ := l2
    obtain ⟨b3, lf3, ld3⟩ := l3
    refine q _ p f0 f1 f2 f3 (x3.trans (ExtN.of sk)) (t3.ext sk) (sk _ _ hp) ?_ ?_ ?_ ?_
    · refine ⟨_, _, _, _, defScope s_law_by_doing, [("shelf" : Str), ("doing" : Str), ("other" : Str), ("found" : Str)], _, _, clo_of sc_law_by_doing.nd ck lf0 ld0 (fun p hp => (hcap p hp).1) hc hσ (cap_by (by decide +kernel)), lamS_by (by decide +kernel), rfl, sc_law_by_doing.nd, fun _ _ _ _ => rfl, fun cl c A outer s H E hr => (pe_call (GX_row_for.mono (by first | decide | omega)) hr (by rfl) T.g_row_for T.F_row_for.kp T.b_row_for .nil passC (pa_cons (pv 0) (pa_cons (pv 1) pa_nil))), ?_⟩
      exact fun H' Q E h => ⟨_, rfl, _, rfl, h⟩
    · refine ⟨_, _, _, _, defScope s_law_by_doing, [("shelf" : Str), ("doing" : Str), ("other" : Str), ("found" : Str)], _, _, clo_of sc_law_by_doing.nd ck lf1 ld1 (fun p hp => (hcap p hp).1) hc hσ (cap_by (by decide +kernel)), lamS_by (by decide +kernel), rfl, sc_law_by_doing.nd, fun _ _ _ _ => rfl, fun cl c A outer s H E hr => (pe_call (GX_led.mono (by first | decide | omega)) hr (by rfl) T.g_led T.F_led.kp T.b_led .nil passC (pa_cons (pv 0) (pa_cons (pv 1) (pa_cons pe_non pa_nil)))), ?_⟩
      exact fun H' Q E h => ⟨_, rfl, _, rfl, h⟩
    · refine ⟨_, _, _, _, defScope s_law_by_doing, [("shelf" : Str), ("doing" : Str), ("other" : Str), ("found" : Str)], _, _, clo_of sc_law_by_doing.nd ck lf2 ld2 (fun p hp => (hcap p hp).1) hc hσ (cap_by (by decide +kernel)), lamS_by (by decide +kernel), rfl, sc_law_by_doing.nd, fun _ _ _ _ => rfl, fun cl c A outer s H E hr => (pe_call (GX_leading.mono (by first | decide | omega)) hr (by rfl) T.g_leading T.F_leading.kp T.b_leading .nil passC (pa_cons (pv 0) (pa_cons (pv 1) (pa_cons pe_non pa_nil)))), ?_⟩
      exact fun H' Q E h => ⟨_, rfl, _, rfl, h⟩
    · refine ⟨_, _, _, _, defScope s_law_by_doing, [("shelf" : Str), ("doing" : Str), ("other" : Str), ("found" : Str)], _, _, clo_of sc_law_by_doing.nd ck lf3 ld3 (fun p hp => (hcap p hp).1) hc hσ (cap_by (by decide +kernel)), lamS_by (by decide +kernel), rfl, sc_law_by_doing.nd, fun _ _ _ _ => rfl, fun cl c A outer s H E hr => (pe_call (GX_joined.mono (by first | decide | omega)) hr (by rfl) T.g_joined T.F_joined.kp T.b_joined .nil passC (pa_cons (pv 0) (pa_cons (pv 1) (pa_cons (pv 2) pa_nil)))), ?_⟩
      exact fun H' Q E h => ⟨_, rfl, _, rfl, _, rfl, h⟩
def sp_law_by_shelf (P : Program) (w : World) (base : Heap) (T : Tx K mg) (U : Ux K mg) (tb : List (Addr × Str)) : Sp := fun vs H Q _ => ∃ (v0 : V), vs = [v0] ∧ Tabs tb H ∧ ∀ (H' : Hp) (p f0 f1 f2 f3 f4 : Addr), ExtN H H' → Tabs tb H' → H' p = some (.lst [.ref f0, .ref f1, .ref f2, .ref f3, .ref f4]) → Calls P w K mg base 12 (spr_is_stand U) [v0, .non] f0 H' → Calls P w K mg base 12 (spr_is_row U) [v0, .non] f1 H' → Calls P w K mg base 12 (spr_is_doing U) [v0, .non] f2 H' → Calls P w K mg base 12 (spr_stands U) [v0] f3 H' → Calls P w K mg base 12 (spr_doings U) [v0] f4 H' → Q (.ref p) H'
theorem ok_law_by_shelf (T : Tx K mg) (U : Ux K mg) {fl : Addr} (L : Ly base T fl) : FnOk P w K mg base CX0 2 T.f_law_by_shelf T.fd_law_by_shelf ["shelf"] (sp_law_by_shelf P w base T U L.tabs) := by
  have GX_doings := okr_doings (P := P) (w := w) (base := base) T U
  have GX_is_doing := okr_is_doing (P := P) (w := w) (base := base) T U
  have GX_is_row := okr_is_row (P := P) (w := w) (base := base) T U
  have GX_is_stand := okr_is_stand (P := P) (w := w) (base := base) T U
  have GX_stands := okr_stands (P := P) (w := w) (base := base) T U
  have LT := L.t4
  have mT := L.m4
  have uT := L.u L.m4
  have hcap : ∀ p ∈ ([("shelf", 0)] : List (Str × Nat)), [("shelf" : Str), ("found" : Str)][p.2]? = some p.1 ∧ (defScope s_law_by_shelf).names.lookup p.1 = some .cell := fun p hp => by
    rcases List.mem_cons.mp hp with rfl | hp
    · exact ⟨rfl, by decide +kernel⟩
    cases hp
  refine funC [("shelf", 0)] T.F_law_by_shelf L.k4 sc_law_by_shelf (fun vs H Q E h => ?_) hcap (fun A outer s H vs Q E hr h => ?_)
  · obtain ⟨_, rfl, _⟩ := h
    rfl
  · obtain ⟨v0, rfl, hT, q⟩ := h
    refine ⟨_, (psr_cons (ps_set (i := 1) sc_law_by_shelf.nd rfl (.inl rfl) (pe_lst (pa_cons (pe_lamV (T := L.tabs) LT rfl mT uT (lamS_by (sc := defScope s_law_by_shelf) (by decide +kernel)) rfl) pa_nil)))
      (psr_cons (ps_expr (pe_bm PySem.F.plainAttrs_list PySem.F.slot_list_append PySem.F.type_list_append mt_append (pv 1) (pa_cons (pe_lamV (T := L.tabs) LT rfl mT uT (lamS_by (sc := defScope s_law_by_shelf) (by decide +kernel)) rfl) pa_nil)))
      (psr_cons (ps_expr (pe_bm PySem.F.plainAttrs_list PySem.F.slot_list_append PySem.F.type_list_append mt_append (pv 1) (pa_cons (pe_lamV (T := L.tabs) LT rfl mT uT (lamS_by (sc := defScope s_law_by_shelf) (by decide +kernel)) rfl) pa_nil)))
      (psr_cons (ps_expr (pe_bm PySem.F.plainAttrs_list PySem.F.slot_list_append PySem.F.type_list_append mt_append (pv 1) (pa_cons (pe_lamV (T := L.tabs) LT rfl mT uT (lamS_by (sc := defScope s_law_by_shelf) (by decide +kernel)) rfl) pa_nil)))
      (psr_cons (ps_expr (pe_bm PySem.F.plainAttrs_list PySem.F.slot_list_append PySem.F.type_list_append mt_append (pv 1) (pa_cons (pe_lamV (T := L.tabs) LT rfl mT uT (lamS_by (sc := defScope s_law_by_shelf) (by decide +kernel)) rfl) pa_nil)))
      (psr_ret (pv 1))))))), ?_⟩
    refine ⟨hT, fun f0 d0 H0 e0 g0 T0 n0 hf0 hd0 => ⟨by show 1 ≤ sizeLine; decide, fun p np => ?_⟩⟩
    have l0 : LmAt H0 f0 _ _ _ _ _ := ⟨d0, hf0, hd0⟩
    have sm := same_new (o := .lst [.ref f0]) np
    have l0 := l0.ext (ExtN.of sm)
    have hp : upd H0 p (.lst [.ref f0]) p = some (.lst [.ref f0]) := upd_same
    have t0 := T0.ext sm
    have npH : H p = none := g0 p np
    have x0 := e0.trans (ExtN.of sm)
    generalize upd H0 p (.lst [.ref f0]) = G0 at *
    refine ⟨_, rfl, .inl ⟨rfl, _, .inl (.inl hp)⟩, t0, fun f1 d1 H1 e1 g1 T1 n1 hf1 hd1 => ?_⟩
    have hp := e1 _ _ hp (fun ps z => by cases z)
    refine ⟨p, _, _, rfl, rfl, hp, by show 1 < sizeLine; decide, ?_⟩
    have l1 : LmAt H1 f1 _ _ _ _ _ := ⟨d1, hf1, hd1⟩
    have l1 := l1.put (ys := [.ref f0, .ref f1]) hp
    have l0 := (l0.ext e1).put (ys := [.ref f0, .ref f1]) hp
    have t1 := tabs_put (ys := [.ref f0, .ref f1]) T1 hp
    have x1 := ext_put (xs := []) (ys := [.ref f0, .ref f1]) (x0.trans e1) npH
    have hp : upd H1 p (.lst [.ref f0, .ref f1]) p = some (.lst [.ref f0, .ref f1]) := upd_same
    rw [show [.ref f0] ++ [V.ref f1] = [.ref f0, .ref f1] from rfl]
    generalize upd H1 p (.lst [.ref f0, .ref f1]) = G1 at *
    refine ⟨_, rfl, .inl ⟨rfl, _, .inl (.inl hp)⟩, t1, fun f2 d2 H2 e2 g2 T2 n2 hf2 hd2 => ?_⟩
    have hp := e2 _ _ hp (fun ps z => by cases z)
    refine ⟨p, _, _, rfl, rfl, hp, by show 2 < sizeLine; decide, ?_⟩
    have l2 : LmAt H2 f2 _ _ _ _ _ := ⟨d2, hf2, hd2⟩
    have l2 := l2.put (ys := [.ref f0, .ref f1, .ref f2]) hp
    have l0 := (l0.ext e2).put (ys := [.ref f0, .ref f1, .ref f2]) hp
    have l1 := (l1.ext e2).put (ys := [.ref f0, .ref f1, .ref f2]) hp
    have t2 := tabs_put (ys := [.ref f0, .ref f1, .ref f2]) T2 hp
    have x2 := ext_put (xs := []) (ys := [.ref f0, .ref f1, .ref f2]) (x1.trans e2) npH
    have hp : upd H2 p (.lst [.ref f0, .ref f1, .ref f2]) p = some (.lst [.ref f0, .ref f1, .ref f2]) := upd_same
    rw [show [.ref f0, .ref f1] ++ [V.ref f2] = [.ref f0, .ref f1, .ref f2] from rfl]
    generalize upd H2 p (.lst [.ref f0, .ref f1, .ref f2]) = G2 at *
    refine ⟨_, rfl, .inl ⟨rfl, _, .inl (.inl hp)⟩, t2, fun f3 d3 H3 e3 g3 T3 n3 hf3 hd3 => ?_⟩
    have hp := e3 _ _ hp (fun ps z => by cases z)
    refine ⟨p, _, _, rfl, rfl, hp, by show 3 < sizeLine; decide, ?_⟩
    have l3 : LmAt H3 f3 _ _ _ _ _ := ⟨d3, hf3, hd3⟩
    have l3 := l3.put (ys := [.ref f0, .ref f1, .ref f2, .ref f3]) hp
    have l0 := (l0.ext e3).put (ys := [.ref f0, .ref f1, .ref f2, .ref f3]) hp
    have l1 := (l1.ext e3).put (ys := [.ref f0, .ref f1, .ref f2, .ref f3]) hp
    have l2 := (l2.ext e3).put (ys := [.ref f0, .ref f1, .ref f2, .ref f3]) hp
    have t3 := tabs_put (ys := [.ref f0, .ref f1, .ref f2, .ref f3]) T3 hp
    have x3 := ext_put (xs := []) (ys := [.ref f0, .ref f1, .ref f2, .ref f3]) (x2.trans e3) npH
    have hp : upd H3 p (.lst [.ref f0, .ref f1, .ref f2, .ref f3]) p = some (.lst [.ref f0, .ref f1, .ref f2, .ref f3]) := upd_same
    rw [show [.ref f0, .ref f1, .ref f2] ++ [V.ref f3] = [.ref f0, .ref f1, .ref f2, .ref f3] from rfl]
    generalize upd H3 p (.lst [.ref f0, .ref f1, .ref f2, .ref f3]) = G3 at *
    refine ⟨_, rfl, .inl ⟨rfl, _, .inl (.inl hp)⟩, t3, fun f4 d4 H4 e4 g4 T4 n4 hf4 hd4 => ?_⟩
    have hp := e4 _ _ hp (fun ps z => by cases z)
    refine ⟨p, _, _, rfl, rfl, hp, by show 4 < sizeLine; decide, ?_⟩
    have l4 : LmAt H4 f4 _ _ _ _ _ := ⟨d4, hf4, hd4⟩
    have l4 := l4.put (ys := [.ref f0, .ref f1, .ref f2, .ref f3, .ref f4]) hp
    have l0 := (l0.ext e4).put (ys := [.ref f0, .ref f1, .ref f2, .ref f3, .ref f4]) hp
    have l1 := (l1.ext e4).put (ys := [.ref f0, .ref f1, .ref f2, .ref f3, .ref f4]) hp
    have l2 := (l2.ext e4).put (ys := [.ref f0, .ref f1, .ref f2, .ref f3, .ref f4]) hp
    have l3 := (l3.ext e4).put (ys := [.ref f0, .ref f1, .ref f2, .ref f3, .ref f4]) hp
    have t4 := tabs_put (ys := [.ref f0, .ref f1, .ref f2, .ref f3, .ref f4]) T4 hp
    have x4 := ext_put (xs := []) (ys := [.ref f0, .ref f1, .ref f2, .ref f3, .ref f4]) (x3.trans e4) npH
    have hp : upd H4 p (.lst [.ref f0, .ref f1, .ref f2, .ref f3, .ref f4]) p = some (.lst [.ref f0, .ref f1, .ref f2, .ref f3, .ref f4]) := upd_same
    rw [show [.ref f0, .ref f1, .ref f2, .ref f3] ++ [V.ref f4] = [.ref f0, .ref f1, .ref f2, .ref f3, .ref f4] from rfl]
    generalize upd H4 p (.lst [.ref f0, .ref f1, .ref f2, .ref f3, .ref f4]) = G4 at *
    refine ⟨_, rfl, fun ck hc => ?_⟩
    have sk := keepC_same (csOf_free (caps := [("shelf", 0)]) (σ := [some v0, some (.ref p)]) ck)
    have hσ : ∀ p_1 ∈ ([("shelf", 0)] : List (Str × Nat)), ∃ v, ([some v0, some (.ref p)] : L2.St)[p_1.2]? = some (some v) := fun p_1 hp_1 => by
      rcases List.mem_cons.mp hp_1 with rfl | hp_1
      · exact ⟨_, rfl⟩
      cases hp_1
    obtain ⟨b0, lf0, ld0⟩ := l0
    obtain ⟨b1, lf1, ld1⟩ := l1
    obtain ⟨b2, lf2, ld2⟩ := l2
    obtain ⟨b3, lf3, ld3⟩ := l3
    obtain ⟨b4, lf4, ld4⟩ := l4
    refine q _ p f0 f1 f2 f3 f4 (x4.trans (ExtN.of sk)) (t4.ext sk) (sk _ _ hp) ?_ ?_ ?_ ?_ ?_
    · refine ⟨_, _, _, _, defScope s_law_by_shelf, [("shelf" : Str), ("found" : Str)], _, _, clo_of sc_law_by_shelf.nd ck lf0 ld0 (fun p hp => (hcap p hp).1) hc hσ (cap_by (by decide +kernel)), lamS_by (by decide +kernel), rfl, sc_law_by_shelf.nd, fun _ _ _ _ => rfl, fun cl c A outer s H E hr => (pe_call (GX_is_stand.mono (by first | decide | omega)) hr (by rfl) T.g_is_stand T.F_is_stand.kp T.b_is_stand .nil passC (pa_cons (pv 0) (pa_cons pe_non pa_nil))), ?_⟩
      exact fun H' Q E h => ⟨_, rfl, h⟩
    · refine ⟨_, _, _, _, defScope s_law_by_shelf, [("shelf" : Str), ("found" : Str)], _, _, clo_of sc_law_by_shelf.nd ck lf1 ld1 (fun p hp => (hcap p hp).1) hc hσ (cap_by (by decide +kernel)), lamS_by (by decide +kernel), rfl, sc_law_by_shelf.nd, fun _ _ _ _ => rfl, fun cl c A outer s H E hr => (pe_call (GX_is_row.mono (by first | decide | omega)) hr (by rfl) T.g_is_row T.F_is_row.kp T.b_is_row .nil passC (pa_cons (pv 0) (pa_cons pe_non pa_nil))), ?_⟩
      exact fun H' Q E h => ⟨_, rfl, h⟩
    · refine ⟨_, _, _, _, defScope s_law_by_shelf, [("shelf" : Str), ("found" : Str)], _, _, clo_of sc_law_by_shelf.nd ck lf2 ld2 (fun p hp => (hcap p hp).1) hc hσ (cap_by (by decide +kernel)), lamS_by (by decide +kernel), rfl, sc_law_by_shelf.nd, fun _ _ _ _ => rfl, fun cl c A outer s H E hr => (pe_call (GX_is_doing.mono (by first | decide | omega)) hr (by rfl) T.g_is_doing T.F_is_doing.kp T.b_is_doing .nil passC (pa_cons (pv 0) (pa_cons pe_non pa_nil))), ?_⟩
      exact fun H' Q E h => ⟨_, rfl, h⟩
    · refine ⟨_, _, _, _, defScope s_law_by_shelf, [("shelf" : Str), ("found" : Str)], _, _, clo_of sc_law_by_shelf.nd ck lf3 ld3 (fun p hp => (hcap p hp).1) hc hσ (cap_by (by decide +kernel)), lamS_by (by decide +kernel), rfl, sc_law_by_shelf.nd, fun _ _ _ _ => rfl, fun cl c A outer s H E hr => (pe_call (GX_stands.mono (by first | decide | omega)) hr (by rfl) T.g_stands T.F_stands.kp T.b_stands .nil passC (pa_cons (pv 0) pa_nil)), ?_⟩
      exact fun H' Q E h => ⟨_, rfl, h⟩
    · refine ⟨_, _, _, _, defScope s_law_by_shelf, [("shelf" : Str), ("found" : Str)], _, _, clo_of sc_law_by_shelf.nd ck lf4 ld4 (fun p hp => (hcap p hp).1) hc hσ (cap_by (by decide +kernel)), lamS_by (by decide +kernel), rfl, sc_law_by_shelf.nd, fun _ _ _ _ => rfl, fun cl c A outer s H E hr => (pe_call (GX_doings.mono (by first | decide | omega)) hr (by rfl) T.g_doings T.F_doings.kp T.b_doings .nil passC (pa_cons (pv 0) pa_nil)), ?_⟩
      exact fun H' Q E h => ⟨_, rfl, h⟩
end PS

namespace PS
open PySem PySem.Spec PyProof.Rows L2 LamX HT L2H
variable {P : Program} {w : World} {K : PySem.W.Frag} {mg : Str → Option Value} {base : Heap}
/-! ### doors that are all refused -/
def Shut (P : Program) (w : World) (K : PySem.W.Frag) (mg : Str → Option Value) (base : Heap) (D : Addr) (fs : List Addr) (H : Hp) : Prop := ∀ f ∈ fs, Door P w K mg base 12 D f H
theorem Shut.ext {D : Addr} {fs : List Addr} {H H' : Hp} (h : Shut P w K mg base D fs H) (e : ExtN H H') : Shut P w K mg base D fs H' := fun f hf => (h f hf).ext e
theorem Shut.nil {D : Addr} {H : Hp} : Shut P w K mg base D [] H := fun f hf => by cases hf
theorem Shut.cons {D f : Addr} {fs : List Addr} {H : Hp} (a : Door P w K mg base 12 D f H) (h : Shut P w K mg base D fs H) : Shut P w K mg base D (f :: fs) H := fun g hg => by
  rcases List.mem_cons.mp hg with rfl | hg
  · exact a
  · exact h g hg
theorem Shut.app {D : Addr} {fs gs : List Addr} {H : Hp} (a : Shut P w K mg base D fs H) (b : Shut P w K mg base D gs H) : Shut P w K mg base D (fs ++ gs) H := fun g hg => (List.mem_append.mp hg).elim (a g) (b g)
def sp_all_told (P : Program) (w : World) (base : Heap) (U : Ux K mg) : Sp := fun vs H Q _ => ∃ (p D : Addr) (z : Str) (fs : List Addr), vs = [.ref p, .str z] ∧ H p = some (.lst (fs.map V.ref)) ∧ Shut P w K mg base D fs H ∧ Kin U D z ∧ fs.length ≤ 100 ∧ ∀ H', Same H H' → Q (.bl true) H'
theorem ok_law_all_told (T : Tx K mg) (U : Ux K mg) : FnOk P w K mg base CX0 15 T.f_law_all_told T.fd_law_all_told ["doors", "word"] (sp_all_told P w base U) := by
  have G_law_try := ok_law_try (P := P) (w := w) (base := base) T U
  refine T.F_law_all_told.ok sc_law_all_told (fun vs H Q E h => ?_) (fun cdv A outer s H vs Q E hr h => ?_)
  · obtain ⟨_, _, _, _, rfl, _⟩ := h
    rfl
  · obtain ⟨p, D, z, fs, rfl, hp, sh, kn, hl, q⟩ := h
    refine ⟨_, (pss_one (ps_ret (pe_cmpR (op_eqP hr.units) (pe_lc (own := [("door", 2)]) (g := gName 2) rfl sc_law_all_told.nd (pi_list (pv 0)) (blkOk_by (own := [("door", 2)]) (N := ["doors", "word", "door"]) (sc := defScope s_law_all_told) (by decide +kernel)) (fun _ _ _ _ _ => (pg_name (i := 2) sc_law_all_told.nd rfl (.inl rfl))) (fun _ _ _ _ _ => pts_one (pt_cmpR op_ne (pe_call (G_law_try.mono (by first | decide | omega)) hr (by rfl) T.g_law_try T.F_law_try.kp T.b_law_try .nil pass0 (pa_cons (pv 2) pa_nil)) (pv 1) (nomark _))) (fun _ _ _ _ _ => (pv 2))) (pe_lst pa_nil) (nomark _)))), ?_⟩
    refine ⟨_, rfl, p, rfl, ⟨_, .inl (.inl hp)⟩, fun D2 nD => ?_⟩
    refine lc_list (K := K) (a := p) (xs := fs.map V.ref) (fun i H' => Same H H' ∧ H' D2 = some (.lst [])) ⟨same_new nD, upd_same⟩ (fun i H' _ pp => .inl (.inl (pp.1 _ _ hp))) (fun i x H' hx pp => ?_) (fun H' pp => ?_)
    · obtain ⟨f, hf, rfl⟩ := List.mem_map.mp (List.mem_of_getElem? hx)
      refine ⟨rfl, _, rfl, f, D, z, rfl, (sh f hf).ext (ExtN.of pp.1), kn, fun H2 s2 => ⟨_, rfl, rfl, _, rfl, iteNS rfl ⟨pp.1.trans s2, s2 _ _ pp.2⟩⟩⟩
    · obtain ⟨s1, hD⟩ := pp
      refine ⟨Nat.zero_le _, fun l nl => ⟨.list [], .list [], .lst (.inl (.inl (same_new nl _ _ hD))) .nil, .lst (.inl (.inl upd_same)) .nil, by decide +kernel, ?_⟩⟩
      rw [show PyData.eqv (.list []) (.list []) = true from by decide +kernel]
      exact q _ (s1.trans (same_new nl))
/-! ### which are refused -/
section
variable {U : Ux K mg} {H : Hp} {v0 v1 v2 : V} {d0 d1 d2 : PyData} {D f0 f1 f2 f3 f4 C : Addr}
theorem door_behind (c : Calls P w K mg base 12 (spr_behind U) [v0, v1, .non] f0 H) (h0 : Dp K H v0 d0) (h1 : Dp K H v1 d1) (r : RS U d0 d1 D) : Door P w K mg base 12 D f0 H :=
  ⟨_, _, c, fun H' Q E x hE => ⟨v0, v1, .non, d0, d1, .none, D, rfl, Dpx x h0, Dpx x h1, .non, .inl r, hE⟩⟩
theorem door_fewest (c : Calls P w K mg base 12 (spr_fewest U) [v0, v1, v2] f0 H) (h0 : Dp K H v0 d0) (h1 : Dp K H v1 d1) (h2 : Dp K H v2 d2) (r : RSS U d0 d1 d2 D) : Door P w K mg base 12 D f0 H :=
  ⟨_, _, c, fun H' Q E x hE => ⟨v0, v1, v2, d0, d1, d2, D, rfl, Dpx x h0, Dpx x h1, Dpx x h2, r, hE⟩⟩
theorem door_pushes_to (c : Calls P w K mg base 12 (spr_pushes_to U) [v0, v1, v2] f0 H) (h0 : Dp K H v0 d0) (h1 : Dp K H v1 d1) (h2 : Dp K H v2 d2) (r : RSS U d0 d1 d2 D) : Door P w K mg base 12 D f0 H :=
  ⟨_, _, c, fun H' Q E x hE => ⟨v0, v1, v2, d0, d1, d2, D, rfl, Dpx x h0, Dpx x h1, Dpx x h2, r, hE⟩⟩
theorem door_leads (c : Calls P w K mg base 12 (spr_leads U) [v0, v1, v2, .non] f0 H) (h0 : Dp K H v0 d0) (h1 : Dp K H v1 d1) (h2 : Dp K H v2 d2) (r : RSS U d0 d1 d2 D) : Door P w K mg base 12 D f0 H :=
  ⟨_, _, c, fun H' Q E x hE => ⟨v0, v1, v2, .non, d0, d1, d2, .none, D, rfl, Dpx x h0, Dpx x h1, Dpx x h2, .non, r, hE⟩⟩
theorem door_Bench (c : Calls P w K mg base 12 (spm_Bench U C) [v0, v1] f0 H) (h0 : Dp K H v0 d0) (h1 : Dp K H v1 d1) (r : RS U d0 d1 D) : Door P w K mg base 12 D f0 H :=
  ⟨_, _, c, fun H' Q E x hE y dy ny ndy ney => by
    have sm : Same H' (upd (upd H' dy (.own y)) y (.ins C dy [])) := (same_new ndy).trans (same_new (by rw [upd_ne ney.symm]; exact ny))
    exact ⟨.ref y, v0, v1, d0, d1, D, rfl, Dpm sm (Dpx x h0), Dpm sm (Dpx x h1), r, fun H2 s2 => hE H2 (sm.trans s2)⟩⟩
theorem doorsS (c0 : Calls P w K mg base 12 (spr_behind U) [v0, v1, .non] f0 H) (c1 : Calls P w K mg base 12 (spr_fewest U) [v0, v1, v2] f1 H) (c2 : Calls P w K mg base 12 (spr_pushes_to U) [v0, v1, v2] f2 H) (c3 : Calls P w K mg base 12 (spr_leads U) [v0, v1, v2, .non] f3 H) (c4 : Calls P w K mg base 12 (spm_Bench U C) [v0, v1] f4 H)
    (h0 : Dp K H v0 d0) (h1 : Dp K H v1 d1) (h2 : Dp K H v2 d2) (r : RS U d0 d1 D) : Shut P w K mg base D [f0, f1, f2, f3, f4] H :=
  (door_behind c0 h0 h1 r |> Shut.cons) <| (door_fewest c1 h0 h1 h2 (.inl r) |> Shut.cons) <| (door_pushes_to c2 h0 h1 h2 (.inl r) |> Shut.cons) <| (door_leads c3 h0 h1 h2 (.inl r) |> Shut.cons) <| (door_Bench c4 h0 h1 r |> Shut.cons) Shut.nil
theorem doorsS2 (c1 : Calls P w K mg base 12 (spr_fewest U) [v0, v1, v2] f1 H) (c2 : Calls P w K mg base 12 (spr_pushes_to U) [v0, v1, v2] f2 H) (c3 : Calls P w K mg base 12 (spr_leads U) [v0, v1, v2, .non] f3 H)
    (h0 : Dp K H v0 d0) (h1 : Dp K H v1 d1) (h2 : Dp K H v2 d2) (r : RSS U d0 d1 d2 D) : Shut P w K mg base D [f1, f2, f3] H :=
  (door_fewest c1 h0 h1 h2 r |> Shut.cons) <| (door_pushes_to c2 h0 h1 h2 r |> Shut.cons) <| (door_leads c3 h0 h1 h2 r |> Shut.cons) Shut.nil
theorem door_doing_of (c : Calls P w K mg base 12 (spr_doing_of U) [v0, v1] f0 H) (h0 : Dp K H v0 d0) (h1 : Dp K H v1 d1) (r : RR U d0 d1 D) : Door P w K mg base 12 D f0 H :=
  ⟨_, _, c, fun H' Q E x hE => ⟨v0, v1, d0, d1, D, rfl, Dpx x h0, Dpx x h1, r, hE⟩⟩
theorem door_alike (c : Calls P w K mg base 12 (spr_alike U) [v0, v1, v2] f0 H) (h0 : Dp K H v0 d0) (h1 : Dp K H v1 d1) (h2 : Dp K H v2 d2) (r : RRR U d0 d1 d2 D) : Door P w K mg base 12 D f0 H :=
  ⟨_, _, c, fun H' Q E x hE => ⟨v0, v1, v2, d0, d1, d2, D, rfl, Dpx x h0, Dpx x h1, Dpx x h2, r, hE⟩⟩
theorem door_parted (c : Calls P w K mg base 12 (spr_parted U) [v0, v1, v2] f0 H) (h0 : Dp K H v0 d0) (h1 : Dp K H v1 d1) (h2 : Dp K H v2 d2) (r : RRR U d0 d1 d2 D) : Door P w K mg base 12 D f0 H :=
  ⟨_, _, c, fun H' Q E x hE => ⟨v0, v1, v2, d0, d1, d2, D, rfl, Dpx x h0, Dpx x h1, Dpx x h2, r, hE⟩⟩
theorem doorsR (c0 : Calls P w K mg base 12 (spr_doing_of U) [v0, v1] f0 H) (c1 : Calls P w K mg base 12 (spr_alike U) [v0, v1, v2] f1 H) (c2 : Calls P w K mg base 12 (spr_parted U) [v0, v1, v2] f2 H) (h0 : Dp K H v0 d0) (h1 : Dp K H v1 d1) (h2 : Dp K H v2 d2) (r : RR U d0 d1 D) : Shut P w K mg base D [f0, f1, f2] H :=
  (door_doing_of c0 h0 h1 r |> Shut.cons) <| (door_alike c1 h0 h1 h2 (.inl r) |> Shut.cons) <| (door_parted c2 h0 h1 h2 (.inl r) |> Shut.cons) Shut.nil
theorem doorsR2 (c1 : Calls P w K mg base 12 (spr_alike U) [v0, v1, v2] f1 H) (c2 : Calls P w K mg base 12 (spr_parted U) [v0, v1, v2] f2 H) (h0 : Dp K H v0 d0) (h1 : Dp K H v1 d1) (h2 : Dp K H v2 d2) (r : RRR U d0 d1 d2 D) : Shut P w K mg base D [f1, f2] H :=
  (door_alike c1 h0 h1 h2 r |> Shut.cons) <| (door_parted c2 h0 h1 h2 r |> Shut.cons) Shut.nil
theorem door_row_for (c : Calls P w K mg base 12 (spr_row_for U) [v0, v1] f0 H) (h0 : Dp K H v0 d0) (h1 : Dp K H v1 d1) (r : RG U d0 d1 D) : Door P w K mg base 12 D f0 H :=
  ⟨_, _, c, fun H' Q E x hE => ⟨v0, v1, d0, d1, D, rfl, Dpx x h0, Dpx x h1, r, hE⟩⟩
theorem door_led (c : Calls P w K mg base 12 (spr_led U) [v0, v1, .non] f0 H) (h0 : Dp K H v0 d0) (h1 : Dp K H v1 d1) (r : RGS U d0 d1 .none D) : Door P w K mg base 12 D f0 H :=
  ⟨_, _, c, fun H' Q E x hE => ⟨v0, v1, .non, d0, d1, .none, D, rfl, Dpx x h0, Dpx x h1, .non, r, hE⟩⟩
theorem door_leading (c : Calls P w K mg base 12 (spr_leading U) [v0, v1, .non] f0 H) (h0 : Dp K H v0 d0) (h1 : Dp K H v1 d1) (r : RGS U d0 d1 .none D) : Door P w K mg base 12 D f0 H :=
  ⟨_, _, c, fun H' Q E x hE => ⟨v0, v1, .non, d0, d1, .none, D, rfl, Dpx x h0, Dpx x h1, .non, r, hE⟩⟩
theorem door_joined (c : Calls P w K mg base 12 (spr_joined U) [v0, v1, v2] f0 H) (h0 : Dp K H v0 d0) (h1 : Dp K H v1 d1) (h2 : Dp K H v2 d2) (r : RGG U d0 d1 d2 D) : Door P w K mg base 12 D f0 H :=
  ⟨_, _, c, fun H' Q E x hE => ⟨v0, v1, v2, d0, d1, d2, D, rfl, Dpx x h0, Dpx x h1, Dpx x h2, r, hE⟩⟩
theorem doorsG (c0 : Calls P w K mg base 12 (spr_row_for U) [v0, v1] f0 H) (c1 : Calls P w K mg base 12 (spr_led U) [v0, v1, .non] f1 H) (c2 : Calls P w K mg base 12 (spr_leading U) [v0, v1, .non] f2 H) (c3 : Calls P w K mg base 12 (spr_joined U) [v0, v1, v2] f3 H) (h0 : Dp K H v0 d0) (h1 : Dp K H v1 d1) (h2 : Dp K H v2 d2) (r : RG U d0 d1 D) : Shut P w K mg base D [f0, f1, f2, f3] H :=
  (door_row_for c0 h0 h1 r |> Shut.cons) <| (door_led c1 h0 h1 (.inl r) |> Shut.cons) <| (door_leading c2 h0 h1 (.inl r) |> Shut.cons) <| (door_joined c3 h0 h1 h2 (.inl r) |> Shut.cons) Shut.nil
theorem doorsG2 (c1 : Calls P w K mg base 12 (spr_led U) [v0, v1, .non] f1 H) (c2 : Calls P w K mg base 12 (spr_leading U) [v0, v1, .non] f2 H) (h0 : Dp K H v0 d0) (h1 : Dp K H v1 d1) (r : RGS U d0 d1 .none D) : Shut P w K mg base D [f1, f2] H :=
  (door_led c1 h0 h1 r |> Shut.cons) <| (door_leading c2 h0 h1 r |> Shut.cons) Shut.nil
theorem doorsH (c0 : Calls P w K mg base 12 (spr_is_stand U) [v0, .non] f0 H) (c1 : Calls P w K mg base 12 (spr_is_row U) [v0, .non] f1 H) (c2 : Calls P w K mg base 12 (spr_is_doing U) [v0, .non] f2 H) (c3 : Calls P w K mg base 12 (spr_stands U) [v0] f3 H) (c4 : Calls P w K mg base 12 (spr_doings U) [v0] f4 H) (h0 : Dp K H v0 d0) (r : RSh U d0 D) : Shut P w K mg base D [f0, f1, f2, f3, f4] H := by
  refine .cons ⟨_, _, c0, fun H' Q E x hE => ⟨v0, .non, d0, .none, D, rfl, Dpx x h0, .non, r, hE⟩⟩ (.cons ⟨_, _, c1, fun H' Q E x hE => ⟨v0, .non, d0, .none, D, rfl, Dpx x h0, .non, r, hE⟩⟩ (.cons ⟨_, _, c2, fun H' Q E x hE => ⟨v0, .non, d0, .none, D, rfl, Dpx x h0, .non, r, hE⟩⟩ (.cons ⟨_, _, c3, fun H' Q E x hE => ⟨v0, d0, D, rfl, Dpx x h0, r, hE⟩⟩ (.cons ⟨_, _, c4, fun H' Q E x hE => ⟨v0, d0, D, rfl, Dpx x h0, r, hE⟩⟩ .nil))))
end
/-! ### things that are none -/
theorem no_shelf_less {ls : List Int} (n1 : 1 ≤ ls.length) (n8 : ls.length ≤ 8) (h : ∀ l ∈ ls, 1 ≤ l ∧ l ≤ 50) : isShelf (shD (ls.sum - 1) ls) = false := by
  unfold isShelf
  simp only
  rw [if_pos (areBlocks_ok n1 n8 h), intOf_iD]
  unfold within
  simp only
  rw [if_neg (by omega)]
theorem no_stand_long {room : Int} {ls : List Int} {ds : List PyData} (h : ds.length ≠ ls.length) : isStand room ls (.tuple ds) = false := by
  unfold isStand
  simp only
  rw [if_neg (by omega)]
theorem no_stand_first {room : Int} {ls : List Int} {d : PyData} {ds : List PyData} (n1 : 1 ≤ ls.length) (h : ∀ i : Int, d = .int i → i < 0) : isStand room ls (.tuple (d :: ds)) = false := by
  unfold isStand
  simp only
  split
  · cases ls with
    | nil => simp at n1
    | cons l ls =>
      cases d with
      | int i =>
        show (if i < 0 then false else _) = false
        rw [if_pos (h i rfl)]
      | _ => rfl
  · rfl
theorem no_stand_room {room : Int} {ls : List Int} (sh : ShOk room ls) : isStand room ls (tI (List.replicate ls.length room)) = false := by
  unfold isStand
  simp only
  rw [if_pos (by rw [List.length_map, List.length_replicate])]
  have n1 := sh.n1
  cases ls with
  | nil => simp at n1
  | cons l ls =>
    have l1 := (sh.l1 l (by simp)).1
    show (if room < 0 then false else standG room (room + l) (iD (List.replicate ls.length room)) ls) = false
    split
    · rfl
    · cases ls with
      | nil =>
        show decide (room + l ≤ room) = false
        exact decide_eq_false (by omega)
      | cons l2 ls =>
        show (if room < room + l then false else _) = false
        rw [if_pos (by omega)]
theorem no_row_long {room : Int} {ls : List Int} {ds : List PyData} (h : 200 < ds.length) : isRow room ls (.list ds) = false := by
  unfold isRow
  simp only
  rw [if_pos (by omega)]
theorem no_row_one {room : Int} {ls : List Int} {d : PyData} (h : isPush room ls d = false) : isRow room ls (.list [d]) = false := by
  unfold isRow
  simp only
  rw [if_neg (by simp)]
  simp [h]
theorem no_push_gap {room : Int} {ls : List Int} {s g p : PyData} (h : isGap ls.length s g = false) : isPush room ls (.tuple [s, g, p]) = false := by
  unfold isPush
  simp only
  rw [if_neg (by rw [h]; decide)]
end PS

namespace PS
open PySem PySem.Spec PyProof.Rows L2 LamX HT L2H
variable {P : Program} {w : World} {K : PySem.W.Frag} {mg : Str → Option Value} {base : Heap}
theorem mvK {H H' : Hp} {k : Addr} {l : List V} {d : PyData} {v : V} (hk : H k = some (.lst l)) (s : Same (Off k H) (Off k H')) (nl : noL d = true) (h : Dp K H v d) : Dp K H' v d := Dpm (off_same k H') (Dpm s (dp_off hk d v nl h))
theorem noL_shD (room : Int) (ls : List Int) : noL (shD room ls) = true := by
  have := noL_tI ls
  simp only [shD, noL, noLs, Bool.and_true, Bool.true_and] at this ⊢
  exact this
theorem catA_any {H : Hp} {Q : VK} {a b : Addr} {xs ys : List V} (s1 : SqT K H a xs) (s2 : SqT K H b ys) (hl : xs.length + ys.length ≤ sizeLine) (q : ∀ p H', Same H H' → SqT K H' p (xs ++ ys) → Q (.ref p) H') : rCatA K (.ref a) (.ref b) H Q := by
  refine ⟨a, b, xs, ys, rfl, rfl, s1, s2, hl, fun e => ?_, fun _ e => ?_, fun _ _ p np => ?_⟩
  · subst e
    exact q b H (Same.refl H) s2
  · subst e
    exact q a H (Same.refl H) (by rw [List.append_nil]; exact s1)
  · exact q p _ (same_new np) (.inl (.inl upd_same))
theorem repA_any {H : Hp} {Q : VK} {a : Addr} {v : V} {n : Nat} (s : SqT K H a [v]) (n1 : 1 ≤ n) (n2 : n ≤ 1000) (q : ∀ p H', Same H H' → SqT K H' p (List.replicate n v) → Q (.ref p) H') : rRepA K (.ref a) (.int (n : Int)) H Q := by
  have e : ∀ m : Nat, (List.replicate m [v]).flatten = List.replicate m v := fun m => by
    induction m with
    | zero => rfl
    | succ m ih => rw [List.replicate_succ, List.flatten_cons, ih]; rfl
  refine ⟨a, n, [v], rfl, rfl, s, by simp, by omega, by omega, by simp, fun z => ?_, fun p np => ?_⟩
  · have z : n = 1 := by omega
    subst z
    exact q a H (Same.refl H) s
  · rw [Int.toNat_natCast, e]
    exact q p _ (same_new np) (.inl (.inl upd_same))
theorem dpAll_rep {H : Hp} : ∀ n : Nat, DpAll K H (List.replicate n (.bl true)) (List.replicate n (.bool true))
  | 0 => .nil
  | n + 1 => by
    rw [List.replicate_succ, List.replicate_succ]
    exact .cons (.bl _) (dpAll_rep n)
theorem flat_rep {v : V} : ∀ m : Nat, (List.replicate m [v]).flatten = List.replicate m v
  | 0 => rfl
  | m + 1 => by
    rw [List.replicate_succ, List.flatten_cons, flat_rep m]
    rfl
theorem dpAll_repl {H : Hp} {v : V} {d : PyData} (h : Dp K H v d) : ∀ n : Nat, DpAll K H (List.replicate n v) (List.replicate n d)
  | 0 => .nil
  | n + 1 => by
    rw [List.replicate_succ, List.replicate_succ]
    exact .cons h (dpAll_repl h n)
theorem depth_rep {d : PyData} {n : Nat} (h : d.depth ≤ 1) : (PyData.list (List.replicate n d)).depth ≤ 64 := by
  have e : PyData.depthAll (List.replicate n d) ≤ 1 := depthAll_le _ fun x hx => by
    rw [(List.mem_replicate.mp hx).2]
    exact h
  simp only [PyData.depth]
  omega
theorem depth_one {d : PyData} (h : d.depth ≤ 1) : (PyData.tuple [d]).depth ≤ 64 := by
  simp only [PyData.depth, PyData.depthAll]
  omega
theorem depth_one' {d : PyData} (h : d.depth ≤ 1) : (PyData.list [d]).depth ≤ 64 := by
  simp only [PyData.depth, PyData.depthAll]
  omega
theorem gap_up {n : Int} : isGap n (.str "up") (.int 1) = false := by
  unfold isGap
  rw [if_neg (by decide +kernel), if_neg (by decide +kernel)]
theorem gap_left {n : Int} : isGap n (.str "left") (.int 0) = false := by
  unfold isGap
  rw [if_neg (by decide +kernel), if_pos (by decide +kernel)]
  rfl
/-- data of a kind -/
def Dz (pr : PyData → Prop) (K : PySem.W.Frag) (H : Hp) (x : V) : Prop := ∃ d : PyData, pr d ∧ Dp K H x d
theorem Dz.mono {pr : PyData → Prop} {H H' : Hp} {x : V} (h : Dz pr K H x) (s : Same H H') : Dz pr K H' x := by
  obtain ⟨d, h1, h2⟩ := h
  exact ⟨d, h1, Dpm s h2⟩
theorem Dz.ext {pr : PyData → Prop} {H H' : Hp} {x : V} (h : Dz pr K H x) (e : ExtN H H') : Dz pr K H' x := by
  obtain ⟨d, h1, h2⟩ := h
  exact ⟨d, h1, dp_ext e h2⟩
theorem dz_nil {pr : PyData → Prop} {H : Hp} : ∀ x ∈ ([] : List V), Dz pr K H x := fun x h => by cases h
theorem dz_cons {pr : PyData → Prop} {H : Hp} {a : V} {as : List V} (h : Dz pr K H a) (t : ∀ x ∈ as, Dz pr K H x) : ∀ x ∈ a :: as, Dz pr K H x := fun x hx => by
  rcases List.mem_cons.mp hx with rfl | hx
  · exact h
  · exact t x hx
theorem no_doing_ints {room : Int} {ls ns : List Int} : isDoing room ls (tI ns) = false := by
  match ns with
  | [] => rfl
  | [_] => rfl
  | [_, _] => rfl
  | _ :: _ :: _ :: _ => rfl
/-- the cells, the tables, the shelf, the stand -/
structure Ina (K : PySem.W.Frag) (tb : List (Addr × Str)) (cells : List Int) (c : Addr) (room : Int) (ls : List Int) (y : Nat → Int) (v sv : V) (H : Hp) : Prop where
  hc : H c = some (.lst (iV cells))
  tb : Tabs tb H
  hv : Dp K H v (shD room ls)
  hs : Dp K H sv (tI (stL ls y))
theorem Ina.ext {tb : List (Addr × Str)} {cells : List Int} {c : Addr} {room : Int} {ls : List Int} {y : Nat → Int} {v sv : V} {H H' : Hp} (h : Ina K tb cells c room ls y v sv H) (e : ExtN H H') (t : Tabs tb H') : Ina K tb cells c room ls y v sv H' := ⟨e _ _ h.hc (fun ps z => by cases z), t, dp_ext e h.hv, dp_ext e h.hs⟩
theorem Ina.same {tb : List (Addr × Str)} {cells : List Int} {c : Addr} {room : Int} {ls : List Int} {y : Nat → Int} {v sv : V} {H H' : Hp} (h : Ina K tb cells c room ls y v sv H) (s : Same H H') : Ina K tb cells c room ls y v sv H' := h.ext (ExtN.of s) (h.tb.ext s)
def sp_law (K : PySem.W.Frag) (tb : List (Addr × Str)) : Sp := fun vs H Q _ => ∃ (a : Addr) (ns : List Int), vs = [.ref a] ∧ SqL K H a (ns.map V.int) ∧ ns.length ≤ 63 ∧ Tabs tb H ∧ ∀ H', Q (.bl true) H'
theorem ok_law {f : Addr} {fd : FuncData} (F : Fun K "law" "law" s_law f fd) (T : Tx K mg) (U : Ux K mg) (L : Ly base T f) : FnOk P w K mg base CX0 18 f fd ["script"] (sp_law K L.tabs) := by
  have G_law_deck := ok_law_deck (P := P) (w := w) (base := base) T
  have G_law_one := ok_law_one (P := P) (w := w) (base := base) T
  have G_law_shelf := ok_law_shelf (P := P) (w := w) (base := base) T
  have G_law_stand := ok_law_stand (P := P) (w := w) (base := base) T
  have G_law_push := ok_law_push (P := P) (w := w) (base := base) T
  have G_law_by_stand := ok_law_by_stand (P := P) (w := w) T U L
  have G_law_by_row := ok_law_by_row (P := P) (w := w) T U L
  have G_law_by_doing := ok_law_by_doing (P := P) (w := w) T U L
  have G_law_by_shelf := ok_law_by_shelf (P := P) (w := w) T U L
  have G_law_all_told := ok_law_all_told (P := P) (w := w) (base := base) T U
  have GX_behind := okr_behind (P := P) (w := w) (base := base) T U
  have GX_joined := okr_joined (P := P) (w := w) (base := base) T U
  obtain ⟨oc, od, kV, doc, pm, an, cdv, ct, osl, hfd, lk, hcg⟩ := T.F_law_try.ex
  have hbd := T.b_law_try
  rw [hfd] at lk hbd
  have LT := L.t5
  have mT := L.m5
  have uT := L.u L.m5
  refine funL F L.k5 sc_law (fun vs H Q E h => ?_) (fun A outer s H vs Q E hr h => ?_)
  · obtain ⟨a, ns, rfl, _⟩ := h
    rfl
  · obtain ⟨a, ns, rfl, hS, hlen, hT, q⟩ := h
    have GT := gets_law_try (X := (cxOf CX0 P w K mg base ["script", "cell", "deck", "less", "odd", "doors", "bads", "one", "bad", "good", "shelf", "stand"] "law" (defScope s_law) f (.ref L.c5) A outer s H E).nox) (cdg := cdv) (q := qL) rfl rfl T U (roomH_of (hr.mono (j := 3) (by decide)))
    refine ⟨_, (pss_cons (ps_for PassesOwn.never rfl (pi_list (pe_slice sl_list (pe_op op_catL (pe_lst (pa_cons pe_int pa_nil)) (pv 0)) po_none (po_some pe_int))) (pg_name (i := 1) sc_law.nd rfl (.inl rfl))
      (pss_cons (ps_set (i := 2) sc_law.nd rfl (.inl rfl) (pe_call (G_law_deck.mono (by first | decide | omega)) hr (by rfl) T.g_law_deck T.F_law_deck.kp T.b_law_deck .nil pass0 (pa_cons (pv 1) (pa_cons pe_int pa_nil))))
      (pss_cons (ps_set (i := 10) sc_law.nd rfl (.inr rfl) (pe_call (G_law_shelf.mono (by first | decide | omega)) hr (by rfl) T.g_law_shelf T.F_law_shelf.kp T.b_law_shelf .nil pass0 (pa_cons (pv 2) (pa_cons pe_int (pa_cons pe_int pa_nil)))))
      (pss_cons (ps_set (i := 11) sc_law.nd rfl (.inr rfl) (pe_call (G_law_stand.mono (by first | decide | omega)) hr (by rfl) T.g_law_stand T.F_law_stand.kp T.b_law_stand .nil pass0 (pa_cons (pv 2) (pa_cons (pv 10) pa_nil))))
      (pss_cons (ps_set (i := 3) sc_law.nd rfl (.inl rfl) (pe_tup (pa_cons (pe_op op_sub (pe_callB (cr_sumT rfl) (by rfl) T.n_sum (by decide +kernel) (pa_cons (pe_ix ix_tup (pv 10) pe_int (fun _ _ => rfl)) pa_nil)) pe_int) (pa_cons (pe_ix ix_tup (pv 10) pe_int (fun _ _ => rfl)) pa_nil))))
      (pss_cons (ps_set (i := 4) sc_law.nd rfl (.inl rfl) (pe_call (G_law_one.mono (by first | decide | omega)) hr (by rfl) T.g_law_one T.F_law_one.kp T.b_law_one .nil pass0 (pa_cons (pv 2) (pa_cons (pe_lst (pa_cons pe_non (pa_cons pe_bl (pa_cons pe_str (pa_cons (pe_tup pa_nil) (pa_cons (pe_lst pa_nil) (pa_cons pe_int (pa_cons (pe_callTy call_list_of (by rfl) T.n_list (by decide +kernel) (pa_cons (pv 10) pa_nil)) (pa_cons (pe_slice sl_tupA (pv 10) po_none (po_some pe_int)) (pa_cons (pv 3) (pa_cons (pe_tup (pa_cons pe_int (pa_cons (pe_tup (pa_cons pe_int pa_nil)) pa_nil))) pa_nil))))))))))) pa_nil))))
      (pss_cons (ps_set (i := 5) sc_law.nd rfl (.inl rfl) (pe_op op_cat (pe_op op_cat (pe_call (G_law_by_stand.mono (by first | decide | omega)) hr (by rfl) T.g_law_by_stand T.F_law_by_stand.kp T.b_law_by_stand .nil pass0 (pa_cons (pv 4) (pa_cons pe_non (pa_cons pe_non pa_nil)))) (pe_call (G_law_by_row.mono (by first | decide | omega)) hr (by rfl) T.g_law_by_row T.F_law_by_row.kp T.b_law_by_row .nil pass0 (pa_cons (pv 4) (pa_cons pe_non (pa_cons pe_non pa_nil))))) (pe_call (G_law_by_doing.mono (by first | decide | omega)) hr (by rfl) T.g_law_by_doing T.F_law_by_doing.kp T.b_law_by_doing .nil pass0 (pa_cons (pv 4) (pa_cons pe_non (pa_cons pe_non pa_nil))))))
      (pss_cons (ps_if (pt_not (pt_val (pe_call (G_law_all_told.mono (by first | decide | omega)) hr (by rfl) T.g_law_all_told T.F_law_all_told.kp T.b_law_all_told .nil pass0 (pa_cons (pe_op op_cat (pv 5) (pe_call (G_law_by_shelf.mono (by first | decide | omega)) hr (by rfl) T.g_law_by_shelf T.F_law_by_shelf.kp T.b_law_by_shelf .nil pass0 (pa_cons (pv 4) pa_nil))) (pa_cons pe_str pa_nil))))) (pss_one (ps_ret pe_bl)) pss_nil)
      (pss_cons (ps_set (i := 6) sc_law.nd rfl (.inl rfl) (pe_lst (pa_cons pe_non (pa_cons (pe_tup pa_nil) (pa_cons (pe_callTy call_list_of (by rfl) T.n_list (by decide +kernel) (pa_cons (pv 11) pa_nil)) (pa_cons (pe_op op_catA (pv 11) (pe_tup (pa_cons (pe_ix ix_tup (pv 10) pe_int (fun _ _ => rfl)) pa_nil))) (pa_cons (pe_op op_catA (pe_tup (pa_cons (pe_un un_neg pe_int) pa_nil)) (pe_slice sl_tupA (pv 11) (po_some pe_int) po_none)) (pa_cons (pe_op op_repA (pe_tup (pa_cons pe_bl pa_nil)) (pe_callB call_len_seq (by rfl) T.n_len (by decide +kernel) (pa_cons (pv 11) pa_nil))) pa_nil))))))))
      (pss_cons (ps_for PassesOwn.never rfl (pi_list (pe_op op_cat (pv 6) (pe_lst (pa_cons (pe_op op_repA (pe_tup (pa_cons (pe_ix ix_tup (pv 10) pe_int (fun _ _ => rfl)) pa_nil)) (pe_callB call_len_seq (by rfl) T.n_len (by decide +kernel) (pa_cons (pv 11) pa_nil))) pa_nil)))) (pg_name (i := 8) sc_law.nd rfl (.inr rfl))
      (pss_cons (ps_if (pt_not (pt_val (pe_call (G_law_all_told.mono (by first | decide | omega)) hr (by rfl) T.g_law_all_told T.F_law_all_told.kp T.b_law_all_told .nil pass0 (pa_cons (pe_call (G_law_by_stand.mono (by first | decide | omega)) hr (by rfl) T.g_law_by_stand T.F_law_by_stand.kp T.b_law_by_stand .nil pass0 (pa_cons (pv 10) (pa_cons (pv 8) (pa_cons pe_non pa_nil)))) (pa_cons pe_str pa_nil))))) (pss_one (ps_ret pe_bl)) pss_nil)
      (pss_one (ps_if (pt_not (pt_val (pe_call (G_law_all_told.mono (by first | decide | omega)) hr (by rfl) T.g_law_all_told T.F_law_all_told.kp T.b_law_all_told .nil pass0 (pa_cons (pe_slice sl_list (pe_call (G_law_by_stand.mono (by first | decide | omega)) hr (by rfl) T.g_law_by_stand T.F_law_by_stand.kp T.b_law_by_stand .nil pass0 (pa_cons (pv 10) (pa_cons (pv 11) (pa_cons (pv 8) pa_nil)))) (po_some pe_int) (po_some pe_int)) (pa_cons pe_str pa_nil))))) (pss_one (ps_ret pe_bl)) pss_nil))))
      (pss_cons (ps_set (i := 7) sc_law.nd rfl (.inl rfl) (pe_call (G_law_push.mono (by first | decide | omega)) hr (by rfl) T.g_law_push T.F_law_push.kp T.b_law_push .nil pass0 (pa_cons (pv 2) (pa_cons (pv 10) pa_nil))))
      (pss_cons (ps_for PassesOwn.never rfl (pi_list (pe_lst (pa_cons pe_non (pa_cons (pe_tup pa_nil) (pa_cons (pe_lst (pa_cons pe_non pa_nil)) (pa_cons (pe_op op_rep (pe_lst (pa_cons (pv 7) pa_nil)) pe_int) (pa_cons (pe_tup (pa_cons (pv 7) pa_nil)) (pa_cons (pe_lst (pa_cons (pe_callTy call_list_of (by rfl) T.n_list (by decide +kernel) (pa_cons (pv 7) pa_nil)) pa_nil)) (pa_cons (pe_lst (pa_cons (pe_tup (pa_cons pe_str (pa_cons pe_int (pa_cons pe_int pa_nil)))) pa_nil)) (pa_cons (pe_lst (pa_cons (pe_tup (pa_cons pe_str (pa_cons pe_int (pa_cons pe_int pa_nil)))) pa_nil)) (pa_cons pe_str pa_nil))))))))))) (pg_name (i := 8) sc_law.nd rfl (.inr rfl))
      (pss_cons (ps_if (pt_not (pt_val (pe_call (G_law_all_told.mono (by first | decide | omega)) hr (by rfl) T.g_law_all_told T.F_law_all_told.kp T.b_law_all_told .nil pass0 (pa_cons (pe_call (G_law_by_row.mono (by first | decide | omega)) hr (by rfl) T.g_law_by_row T.F_law_by_row.kp T.b_law_by_row .nil pass0 (pa_cons (pv 10) (pa_cons (pv 8) (pa_cons pe_non pa_nil)))) (pa_cons pe_str pa_nil))))) (pss_one (ps_ret pe_bl)) pss_nil)
      (pss_cons (ps_if (pt_not (pt_val (pe_call (G_law_all_told.mono (by first | decide | omega)) hr (by rfl) T.g_law_all_told T.F_law_all_told.kp T.b_law_all_told .nil pass0 (pa_cons (pe_slice sl_list (pe_call (G_law_by_row.mono (by first | decide | omega)) hr (by rfl) T.g_law_by_row T.F_law_by_row.kp T.b_law_by_row .nil pass0 (pa_cons (pv 10) (pa_cons (pe_lst (pa_cons (pv 7) pa_nil)) (pa_cons (pv 8) pa_nil)))) (po_some pe_int) po_none) (pa_cons pe_str pa_nil))))) (pss_one (ps_ret pe_bl)) pss_nil)
      (pss_one (ps_if (pt_cmpR op_ne (pe_lamN (T := L.tabs) (TT := TTr U) (by rfl) T.g_law_try T.F_law_try.kp lk hcg hbd sc_law_try rfl (.inl rfl) GT LT rfl mT uT hr (lamS_by (sc := defScope s_law) (by decide +kernel)) rfl (fun _ _ _ _ _ => rfl) (fun _ _ _ _ _ _ _ hr => (pe_call (GX_behind.mono (by first | decide | omega)) hr (by rfl) T.g_behind T.F_behind.kp T.b_behind .nil passL (pa_cons (pv 10) (pa_cons (pv 11) (pa_cons (pv 8) pa_nil)))))) pe_str (nomark _)) (pss_one (ps_ret pe_bl)) pss_nil)))))
      (pss_cons (ps_set (i := 9) sc_law.nd rfl (.inr rfl) (pe_tup (pa_cons (pv 11) (pa_cons (pv 11) pa_nil))))
      (pss_cons (ps_for PassesOwn.never rfl (pi_list (pe_lst (pa_cons pe_non (pa_cons (pe_tup pa_nil) (pa_cons (pv 11) (pa_cons (pe_lst (pa_cons (pv 11) (pa_cons (pv 11) pa_nil))) (pa_cons (pe_tup (pa_cons (pv 11) pa_nil)) (pa_cons (pe_tup (pa_cons (pv 11) (pa_cons pe_non pa_nil))) (pa_cons (pe_tup (pa_cons (pv 11) (pa_cons (pe_callTy call_list_of (by rfl) T.n_list (by decide +kernel) (pa_cons (pv 11) pa_nil)) pa_nil))) pa_nil))))))))) (pg_name (i := 8) sc_law.nd rfl (.inr rfl))
      (pss_cons (ps_if (pt_not (pt_val (pe_call (G_law_all_told.mono (by first | decide | omega)) hr (by rfl) T.g_law_all_told T.F_law_all_told.kp T.b_law_all_told .nil pass0 (pa_cons (pe_call (G_law_by_doing.mono (by first | decide | omega)) hr (by rfl) T.g_law_by_doing T.F_law_by_doing.kp T.b_law_by_doing .nil pass0 (pa_cons (pv 10) (pa_cons (pv 8) (pa_cons pe_non pa_nil)))) (pa_cons pe_str pa_nil))))) (pss_one (ps_ret pe_bl)) pss_nil)
      (pss_one (ps_if (pt_cmpR op_ne (pe_lamN (T := L.tabs) (TT := TTr U) (by rfl) T.g_law_try T.F_law_try.kp lk hcg hbd sc_law_try rfl (.inl rfl) GT LT rfl mT uT hr (lamS_by (sc := defScope s_law) (by decide +kernel)) rfl (fun _ _ _ _ _ => rfl) (fun _ _ _ _ _ _ _ hr => (pe_call (GX_joined.mono (by first | decide | omega)) hr (by rfl) T.g_joined T.F_joined.kp T.b_joined .nil passL (pa_cons (pv 10) (pa_cons (pv 9) (pa_cons (pv 8) pa_nil)))))) pe_str (nomark _)) (pss_one (ps_ret pe_bl)) pss_nil))))
      (pss_one (ps_if (pt_not (pt_val (pe_call (G_law_all_told.mono (by first | decide | omega)) hr (by rfl) T.g_law_all_told T.F_law_all_told.kp T.b_law_all_told .nil pass0 (pa_cons (pe_slice sl_list (pe_call (G_law_by_doing.mono (by first | decide | omega)) hr (by rfl) T.g_law_by_doing T.F_law_by_doing.kp T.b_law_by_doing .nil pass0 (pa_cons (pv 10) (pa_cons (pv 9) (pa_cons pe_non pa_nil)))) (po_some pe_int) (po_some pe_int)) (pa_cons pe_str pa_nil))))) (pss_one (ps_ret pe_bl)) pss_nil))))))))))))))))
      (pss_one (ps_ret pe_bl))), ?_⟩
    refine ⟨by show 1 ≤ sizeLine; decide, fun z nz => ⟨.ref a, rfl, z, a, [.int 0], iV ns, rfl, rfl, .inl (.inl upd_same), (same_new nz).seq hS, ?_, fun p np => ⟨8, rfl, p, _, rfl, .inl (.inl upd_same), fun c nc => ?_⟩⟩⟩
    · exact Nat.le_of_lt (small1000 (by simp; omega))
    have ecut : cutV ([V.int 0] ++ iV ns) none (some 8) = iV (((0 : Int) :: ns).take 8) := by
      rw [show (some (8 : Int)) = some ((8 : Nat) : Int) from rfl, cut_to]
      show _ = (((0 : Int) :: ns).take 8).map V.int
      rw [List.map_take]
      rfl
    rw [ecut]
    generalize ((0 : Int) :: ns).take 8 = cells
    have hTc : Tabs L.tabs (upd (upd (upd H z (.lst [.int 0])) p (.lst ([V.int 0] ++ iV ns))) c (.lst (iV cells))) := hT.ext (((same_new nz).trans (same_new np)).trans (same_new nc))
    have hc0 : upd (upd (upd H z (.lst [.int 0])) p (.lst ([V.int 0] ++ iV ns))) c (.lst (iV cells)) c = some (.lst (iV cells)) := upd_same
    generalize upd (upd (upd H z (.lst [.int 0])) p (.lst ([V.int 0] ++ iV ns))) c (.lst (iV cells)) = Hc at *
    refine ⟨c, rfl, ⟨_, .inl (.inl hc0)⟩, ?_⟩
    refine for_list (K := K) (a := c) (xs := iV cells) (fun i σ H' => H' c = some (.lst (iV cells)) ∧ Tabs L.tabs H' ∧ ∃ y1 y2 y3 y4 y5 y6 y7 y8 y9 y10 y11, σ = [some (.ref a), y1, y2, y3, y4, y5, y6, y7, y8, y9, y10, y11])
      ⟨hc0, hTc, _, _, _, _, _, _, _, _, _, _, _, rfl⟩ (fun i σ H' _ p => .inl (.inl p.1)) (fun i x σ H0 hx p => ?_) (fun σ H' p => ?_)
    · obtain ⟨hc0, hT0, y1, y2, y3, y4, y5, y6, y7, y8, y9, y10, y11, rfl⟩ := p
      obtain ⟨cell, _, rfl⟩ := List.mem_map.mp (List.mem_of_getElem? hx)
      refine ⟨_, rfl, cell, 12, rfl, by decide, by decide, fun k H1 s1 nk dk1 => ?_⟩
      have nck : c ≠ k := ne_of_none hc0 nk
      have hc1 := s1 _ _ hc0
      have hT1 := hT0.ext s1
      obtain ⟨l1, hk1⟩ := dk1.lst
      -- shelf, stand
      refine ⟨_, rfl, k, 8, 400, 999980, rfl, by decide, by decide, by decide, by decide, dk1, fun v H3 room ls sh _ _ dk3 s3 hv3 => ?_⟩
      have n8 := sh.n8
      have n1 := sh.n1
      refine ⟨_, rfl, _, rfl, k, v, room, ls, 999960, rfl, hv3, sh, dk3, fun sv H4 y riy dk4 o4 hs4 => ?_⟩
      have o4' := s3.trans o4
      have f4 := off_same k H4
      have N4 : Ina K L.tabs cells c room ls y v sv H4 := ⟨off_back o4' nck hc1, tabs_off hk1 (fun ps z => by cases z) (fun φ z => by cases z) o4' hT1, Dpm (o4.trans f4) hv3, Dpm f4 hs4⟩
      have hv4 := Dpm o4 hv3
      obtain ⟨va, vb, rfl, svaO, svbO⟩ := dp_shelf hv4
      obtain ⟨sa, rfl, ssaO⟩ := dp_tI hs4
      have sva := seqT_mono f4 svaO
      have svb := seqT_mono f4 svbO
      -- less
      refine ⟨_, rfl, va, _, 1, _, rfl, rfl, sva, atI_nat (j := 1) rfl, vb, ls, rfl, svb, _, _, rfl, rfl, _, rfl, va, _, 1, _, rfl, rfl, sva, atI_nat (j := 1) rfl, by show 2 ≤ sizeLine; decide, fun t5 nt5 => ?_⟩
      have k5 := dk4.ne nt5
      have o5 := off_new (k := k) (o := .tup [.int (ls.sum - 1), .ref vb]) nt5
      have s5 := same_new (o := .tup [.int (ls.sum - 1), .ref vb]) nt5
      have dk5 := dk4.same s5
      have z5 : Dz (fun d => isShelf d = false) K (Off k (upd H4 t5 (.tup [.int (ls.sum - 1), .ref vb]))) (.ref t5) := ⟨shD (ls.sum - 1) ls, no_shelf_less n1 n8 sh.l1, .tup (.inl (.inl (off_up k5))) (.cons (.int _) (.cons (Dpm o5 (tI_dp svbO)) .nil))⟩
      have N5 := N4.same s5
      have svaO := seqT_mono o5 svaO
      have sva := seqT_mono s5 sva
      generalize upd H4 t5 (.tup [.int (ls.sum - 1), .ref vb]) = H5 at *
      -- an odd thing
      refine ⟨_, rfl, Nat.zero_le _, fun t6 n6 => ?_⟩
      have k6 := dk5.ne n6
      have o6 := off_new (k := k) (o := .tup []) n6
      have s6 := same_new (o := .tup []) n6
      have dk6 := dk5.same s6
      have z6 : Dz (fun d => isShelf d = false) K (Off k (upd H5 t6 (.tup []))) (.ref t6) := ⟨.tuple [], rfl, .tup (.inl (.inl (off_up k6))) .nil⟩
      have z5 := z5.mono o6
      generalize upd H5 t6 (.tup []) = H6 at *
      refine ⟨Nat.zero_le _, fun l7 n7 => ?_⟩
      have k7 := dk6.ne n7
      have o7 := off_new (k := k) (o := .lst []) n7
      have s7 := same_new (o := .lst []) n7
      have dk7 := dk6.same s7
      have z7 : Dz (fun d => isShelf d = false) K (Off k (upd H6 l7 (.lst []))) (.ref l7) := ⟨.list [], rfl, .lst (.inl (.inl (off_up k7))) .nil⟩
      have z5 := z5.mono o7
      have z6 := z6.mono o7
      generalize upd H6 l7 (.lst []) = H7 at *
      have o57 := o6.trans o7
      have s57 := s6.trans s7
      have sva := seqT_mono s57 sva
      refine ⟨_, rfl, va, _, rfl, .inr sva, fun l8 n8' => ?_⟩
      have k8 := dk7.ne n8'
      have o8 := off_new (k := k) (o := .lst [.int room, .ref vb]) n8'
      have s8 := same_new (o := .lst [.int room, .ref vb]) n8'
      have dk8 := dk7.same s8
      have z8 : Dz (fun d => isShelf d = false) K (Off k (upd H7 l8 (.lst [.int room, .ref vb]))) (.ref l8) := ⟨.list [.int room, tI ls], rfl, .lst (.inl (.inl (off_up k8))) (.cons (.int _) (.cons (Dpm (o5.trans (o57.trans o8)) (tI_dp svbO)) .nil))⟩
      have z5 := z5.mono o8
      have z6 := z6.mono o8
      have z7 := z7.mono o8
      generalize upd H7 l8 (.lst [.int room, .ref vb]) = H8 at *
      have sva := seqT_mono s8 sva
      refine ⟨_, rfl, 1, rfl, ?_⟩
      refine slT_to (k := 1) sva fun p9 H9 s9 sp9 => ?_
      have dk9 := dk8.same s9
      have o9 := off_mono (k := k) s9
      obtain ⟨lk9, hk9⟩ := dk9.lst
      have z9 : Dz (fun d => isShelf d = false) K (Off k H9) (.ref p9) := ⟨.tuple [.int room], rfl, dp_off hk9 _ _ rfl (.tup sp9 (.cons (.int _) .nil))⟩
      have z5 := z5.mono o9
      have z6 := z6.mono o9
      have z7 := z7.mono o9
      have z8 := z8.mono o9
      refine ⟨_, rfl, by show 1 ≤ sizeLine; decide, fun t10 n10 => ?_⟩
      have k10 := dk9.ne n10
      have o10 := off_new (k := k) (o := .tup [.int 0]) n10
      have s10 := same_new (o := .tup [.int 0]) n10
      have dk10 := dk9.same s10
      have h10 : Dp K (Off k (upd H9 t10 (.tup [.int 0]))) (.ref t10) (tI [0]) := tI_dp (.inl (.inl (off_up k10)))
      generalize upd H9 t10 (.tup [.int 0]) = H10 at *
      refine ⟨by show 2 ≤ sizeLine; decide, fun t11 n11 => ?_⟩
      have k11 := dk10.ne n11
      have o11 := off_new (k := k) (o := .tup [.int 9, .ref t10]) n11
      have s11 := same_new (o := .tup [.int 9, .ref t10]) n11
      have dk11 := dk10.same s11
      have z11 : Dz (fun d => isShelf d = false) K (Off k (upd H10 t11 (.tup [.int 9, .ref t10]))) (.ref t11) := ⟨shD 9 [0], by decide +kernel, .tup (.inl (.inl (off_up k11))) (.cons (.int _) (.cons (Dpm o11 h10) .nil))⟩
      have o911 := o10.trans o11
      have z5 := z5.mono o911
      have z6 := z6.mono o911
      have z7 := z7.mono o911
      have z8 := z8.mono o911
      have z9 := z9.mono o911
      generalize upd H10 t11 (.tup [.int 9, .ref t10]) = H11 at *
      refine ⟨by show 10 ≤ sizeLine; decide, fun l12 n12 => ?_⟩
      have k12 := dk11.ne n12
      have all : ∀ x ∈ [.non, .bl true, .str "", .ref t6, .ref l7, .int 7, .ref l8, .ref p9, .ref t5, .ref t11], Dz (fun d => isShelf d = false) K (Off k H11) x :=
        dz_cons ⟨.none, rfl, .non⟩ (dz_cons ⟨.bool true, rfl, .bl _⟩ (dz_cons ⟨.str "", rfl, .str _⟩ (dz_cons z6 (dz_cons z7 (dz_cons ⟨.int 7, rfl, .int _⟩ (dz_cons z8 (dz_cons z9 (dz_cons z5 (dz_cons z11 dz_nil)))))))))
      refine ⟨k, l12, _, 999958, rfl, .inl (.inl (off_up k12)), by show 0 < 10; decide, by show 10 < 1000; decide, (dk11.same (same_new n12)).le (by decide), fun xo H13 hxo dk13 o13 => ?_⟩
      have o12 := (off_new (k := k) (o := .lst [.non, .bl true, .str "", .ref t6, .ref l7, .int 7, .ref l8, .ref p9, .ref t5, .ref t11]) n12).trans o13
      obtain ⟨dod, hod, hxd⟩ := (all xo hxo).mono o12
      have hxd := Dpm (off_same k H13) hxd
      have N13 : Ina K L.tabs cells c room ls y (.ref va) (.ref sa) H13 := by
        have q13 := ((((o57.trans o8).trans o9).trans o911).trans o12)
        obtain ⟨l5, hk5⟩ := dk5.lst
        exact ⟨off_back q13 nck N5.hc, tabs_off hk5 (fun ps z => by cases z) (fun φ z => by cases z) q13 N5.tb, mvK hk5 q13 (noL_shD room ls) N5.hv, mvK hk5 q13 (noL_tI _) N5.hs⟩
      clear z5 z6 z7 z8 z9 z11 all o5 o6 o7 o8 o9 o10 o11 o12 o13 o57 o911 s5 s6 s7 s8 s9 s10 s11 s57 h10 sp9 N4 N5 sva svaO svbO svb ssaO hv4 hs4 hv3 dk3 dk4 dk5 dk6 dk7 dk8 dk9 dk10 dk11 hxo hk9
      -- no shelf
      refine ⟨_, rfl, xo, .non, .non, rfl, N13.tb, fun H14 p14 f0 f1 f2 f3 f4 e14 T14 hp14 c0 c1 c2 c3 c4 => ?_⟩
      have hx14 := dp_ext e14 hxd
      have S14 := doorsS c0 c1 c2 c3 c4 hx14 .non .non (.inl ⟨hod, rfl⟩)
      refine ⟨_, rfl, xo, .non, .non, rfl, T14, fun H15 p15 g0 g1 g2 e15 T15 hp15 b0 b1 b2 => ?_⟩
      have hx15 := dp_ext e15 hx14
      have S15 := doorsR b0 b1 b2 hx15 .non .non (.inl ⟨hod, rfl⟩)
      have hp14 := e15 _ _ hp14 (fun ps z => by cases z)
      refine ⟨p14, p15, _, _, rfl, rfl, hp14, hp15, by show 5 + 3 ≤ sizeLine; decide, fun p16 n16 => ?_⟩
      have s16 := same_new (o := .lst ([.ref f0, .ref f1, .ref f2, .ref f3, .ref f4] ++ [.ref g0, .ref g1, .ref g2])) n16
      have A16 := ((S14.ext e15).app S15).ext (ExtN.of s16)
      have hp16 : upd H15 p16 (.lst ([.ref f0, .ref f1, .ref f2, .ref f3, .ref f4] ++ [.ref g0, .ref g1, .ref g2])) p16 = some (.lst ([.ref f0, .ref f1, .ref f2, .ref f3, .ref f4] ++ [.ref g0, .ref g1, .ref g2])) := upd_same
      have T16 := T15.ext s16
      have hx16 := Dpm s16 hx15
      have x16 := e14.trans (e15.trans (ExtN.of s16))
      generalize upd H15 p16 (.lst ([.ref f0, .ref f1, .ref f2, .ref f3, .ref f4] ++ [.ref g0, .ref g1, .ref g2])) = H16 at *
      refine ⟨_, rfl, xo, .non, .non, rfl, T16, fun H17 p17 h0 h1 h2 h3 e17 T17 hp17 b0 b1 b2 b3 => ?_⟩
      have hx17 := dp_ext e17 hx16
      have S17 := doorsG b0 b1 b2 b3 hx17 .non .non (.inl ⟨hod, rfl⟩)
      have hp16 := e17 _ _ hp16 (fun ps z => by cases z)
      refine ⟨p16, p17, _, _, rfl, rfl, hp16, hp17, by show 8 + 4 ≤ sizeLine; decide, fun p18 n18 => ?_⟩
      have s18 := same_new (o := .lst ([.ref f0, .ref f1, .ref f2, .ref f3, .ref f4] ++ [.ref g0, .ref g1, .ref g2] ++ [.ref h0, .ref h1, .ref h2, .ref h3])) n18
      have A18 := ((A16.ext e17).app S17).ext (ExtN.of s18)
      have hp18 : upd H17 p18 (.lst ([.ref f0, .ref f1, .ref f2, .ref f3, .ref f4] ++ [.ref g0, .ref g1, .ref g2] ++ [.ref h0, .ref h1, .ref h2, .ref h3])) p18 = some (.lst ([.ref f0, .ref f1, .ref f2, .ref f3, .ref f4] ++ [.ref g0, .ref g1, .ref g2] ++ [.ref h0, .ref h1, .ref h2, .ref h3])) := upd_same
      have T18 := T17.ext s18
      have hx18 := Dpm s18 hx17
      have x18 := x16.trans (e17.trans (ExtN.of s18))
      generalize upd H17 p18 (.lst ([.ref f0, .ref f1, .ref f2, .ref f3, .ref f4] ++ [.ref g0, .ref g1, .ref g2] ++ [.ref h0, .ref h1, .ref h2, .ref h3])) = H18 at *
      refine ⟨_, rfl, _, rfl, xo, rfl, T18, fun H19 p19 i0 i1 i2 i3 i4 e19 T19 hp19 b0 b1 b2 b3 b4 => ?_⟩
      have hx19 := dp_ext e19 hx18
      have S19 := doorsH b0 b1 b2 b3 b4 hx19 ⟨hod, rfl⟩
      have hp18 := e19 _ _ hp18 (fun ps z => by cases z)
      refine ⟨p18, p19, _, _, rfl, rfl, hp18, hp19, by show 12 + 5 ≤ sizeLine; decide, fun p20 n20 => ?_⟩
      have s20 := same_new (o := .lst ([.ref f0, .ref f1, .ref f2, .ref f3, .ref f4] ++ [.ref g0, .ref g1, .ref g2] ++ [.ref h0, .ref h1, .ref h2, .ref h3] ++ [.ref i0, .ref i1, .ref i2, .ref i3, .ref i4])) n20
      have A20 := ((A18.ext e19).app S19).ext (ExtN.of s20)
      refine ⟨p20, U.C_NoShelf, "NoShelf+", _, rfl, upd_same, A20, .inl ⟨rfl, rfl⟩, by show 17 ≤ 100; decide, fun H21 s21 => ⟨_, rfl, iteF ?_⟩⟩
      have x21 := x18.trans (e19.trans (ExtN.of (s20.trans s21)))
      have N21 := N13.ext x21 ((T19.ext s20).ext s21)
      have dk21 : Dk k H21 999958 := by
        obtain ⟨a1, a2, a3, q1, q2⟩ := dk13
        exact ⟨a1, a2, a3, x21 _ _ q1 (fun ps z => by cases z), q2⟩
      clear A16 A18 A20 S14 S15 S17 S19 c0 c1 c2 c3 c4 b0 b1 b2 b3 b4 hx14 hx15 hx16 hx17 hx18 hx19 hp14 hp15 hp16 hp17 hp18 hp19 e14 e15 e17 e19 s16 s18 s20 s21 T14 T15 T16 T17 T18 T19 x16 x18 x21 N13 hxd dk13
      -- no stand: the things
      obtain ⟨va', vb', ev, sva, svb⟩ := dp_shelf N21.hv
      cases ev
      obtain ⟨sa', es, ssa⟩ := dp_tI N21.hs
      cases es
      refine ⟨Nat.zero_le _, fun t1 m1 => ?_⟩
      have r1 := same_new (o := .tup []) m1
      have w1 : Dz (fun d => isStand room ls d = false) K (upd H21 t1 (.tup [])) (.ref t1) := ⟨.tuple [], no_stand_long (by simp; omega), .tup (.inl (.inl upd_same)) .nil⟩
      generalize upd H21 t1 (.tup []) = J1 at *
      refine ⟨_, rfl, sa, _, rfl, .inr (seqT_mono r1 ssa), fun l2 m2 => ?_⟩
      have r2 := same_new (o := .lst (iV (stL ls y))) m2
      have w2 : Dz (fun d => isStand room ls d = false) K (upd J1 l2 (.lst (iV (stL ls y)))) (.ref l2) := ⟨.list (iD (stL ls y)), rfl, .lst (.inl (.inl upd_same)) (ints_dpAll _)⟩
      have w1 := w1.mono r2
      generalize upd J1 l2 (.lst (iV (stL ls y))) = J2 at *
      have g2 := r1.trans r2
      refine ⟨_, rfl, _, rfl, va, _, 0, _, rfl, rfl, seqT_mono g2 sva, atI_nat (j := 0) rfl, by show 1 ≤ sizeLine; decide, fun t3 m3 => ?_⟩
      have r3 := same_new (o := .tup [.int room]) m3
      have h3 : upd J2 t3 (.tup [.int room]) t3 = some (.tup [.int room]) := upd_same
      generalize upd J2 t3 (.tup [.int room]) = J3 at *
      have g3 := g2.trans r3
      refine catA_any (seqT_mono g3 ssa) (.inl (.inl h3)) (Nat.le_of_lt (small1000 (by rw [iV_len, stL_len]; show ls.length + 1 ≤ 1000; omega))) fun p4 J4 r4 sp4 => ?_
      have w4 : Dz (fun d => isStand room ls d = false) K J4 (.ref p4) := by
        have e4 : iV (stL ls y ++ [room]) = iV (stL ls y) ++ [V.int room] := List.map_append
        rw [← e4] at sp4
        exact ⟨_, no_stand_long (by rw [List.length_map, List.length_append, stL_len]; simp), tI_dp sp4⟩
      have w1 := w1.mono (r3.trans r4)
      have w2 := w2.mono (r3.trans r4)
      have g4 := g3.trans r4
      refine ⟨_, rfl, by show 1 ≤ sizeLine; decide, fun t5' m5 => ?_⟩
      have r5 := same_new (o := .tup [.int (-1)]) m5
      have h5 : upd J4 t5' (.tup [.int (-1)]) t5' = some (.tup [.int (-1)]) := upd_same
      generalize upd J4 t5' (.tup [.int (-1)]) = J5 at *
      have g5 := g4.trans r5
      refine ⟨_, rfl, 1, rfl, ?_⟩
      unfold tNoPart
      refine slT_from (k := 1) (seqT_mono g5 ssa) fun p6 J6 r6 sp6 => ?_
      have g6 := g5.trans r6
      have h6 := r6 _ _ h5
      refine catA_any (xs := [.int (-1)]) (.inl (.inl h6)) sp6 (Nat.le_of_lt (small1000 (by rw [List.length_drop, iV_len, stL_len]; show 1 + (ls.length - 1) ≤ 1000; omega))) fun p7 J7 r7 sp7 => ?_
      have w7 : Dz (fun d => isStand room ls d = false) K J7 (.ref p7) := by
        rw [← List.map_drop] at sp7
        exact ⟨.tuple (.int (-1) :: iD ((stL ls y).drop 1)), no_stand_first n1 (fun i e => by cases e; decide), .tup sp7 (.cons (.int _) (ints_dpAll _))⟩
      have q47 := r5.trans (r6.trans r7)
      have w1 := w1.mono q47
      have w2 := w2.mono q47
      have w4 := w4.mono q47
      have g7 := g6.trans r7
      refine ⟨by show 1 ≤ sizeLine; decide, fun t8 m8 => ?_⟩
      have r8 := same_new (o := .tup [.bl true]) m8
      have h8 : upd J7 t8 (.tup [.bl true]) t8 = some (.tup [.bl true]) := upd_same
      generalize upd J7 t8 (.tup [.bl true]) = J8 at *
      have g8 := g7.trans r8
      refine ⟨_, rfl, sa, _, rfl, .inr (seqT_mono g8 ssa), ?_⟩
      rw [iV_len, stL_len]
      refine repA_any (.inl (.inl h8)) n1 (by omega) fun p9 J9 r9 sp9 => ?_
      have w9 : Dz (fun d => isStand room ls d = false) K J9 (.ref p9) := by
        obtain ⟨m, em⟩ : ∃ m, ls.length = m + 1 := ⟨ls.length - 1, by omega⟩
        rw [em, List.replicate_succ] at sp9
        exact ⟨.tuple (.bool true :: List.replicate m (.bool true)), no_stand_first n1 (fun i e => by cases e), .tup sp9 (.cons (.bl _) (dpAll_rep m))⟩
      have q79 := r8.trans r9
      have w1 := w1.mono q79
      have w2 := w2.mono q79
      have w4 := w4.mono q79
      have w7 := w7.mono q79
      have g9 := g8.trans r9
      refine ⟨by show 6 ≤ sizeLine; decide, fun l10 m10 => ?_⟩
      have r10 := same_new (o := .lst [.non, .ref t1, .ref l2, .ref p4, .ref p7, .ref p9]) m10
      have h10 : upd J9 l10 (.lst [.non, .ref t1, .ref l2, .ref p4, .ref p7, .ref p9]) l10 = some (.lst [.non, .ref t1, .ref l2, .ref p4, .ref p7, .ref p9]) := upd_same
      have all6 : ∀ x ∈ [.non, .ref t1, .ref l2, .ref p4, .ref p7, .ref p9], Dz (fun d => isStand room ls d = false) K (upd J9 l10 (.lst [.non, .ref t1, .ref l2, .ref p4, .ref p7, .ref p9])) x :=
        dz_cons ⟨.none, rfl, .non⟩ (dz_cons (w1.mono r10) (dz_cons (w2.mono r10) (dz_cons (w4.mono r10) (dz_cons (w7.mono r10) (dz_cons (w9.mono r10) dz_nil)))))
      have g10 := g9.trans r10
      generalize upd J9 l10 (.lst [.non, .ref t1, .ref l2, .ref p4, .ref p7, .ref p9]) = J10 at *
      refine ⟨_, rfl, _, rfl, va, _, 0, _, rfl, rfl, seqT_mono g10 sva, atI_nat (j := 0) rfl, by show 1 ≤ sizeLine; decide, fun t11 m11 => ?_⟩
      have r11 := same_new (o := .tup [.int room]) m11
      have h11 : upd J10 t11 (.tup [.int room]) t11 = some (.tup [.int room]) := upd_same
      generalize upd J10 t11 (.tup [.int room]) = J11 at *
      refine ⟨_, rfl, sa, _, rfl, .inr (seqT_mono (g10.trans r11) ssa), ?_⟩
      rw [iV_len, stL_len]
      refine repA_any (.inl (.inl h11)) n1 (by omega) fun p12 J12 r12 sp12 => ?_
      have w12 : Dz (fun d => isStand room ls d = false) K J12 (.ref p12) := by
        have e12 : iV (List.replicate ls.length room) = List.replicate ls.length (V.int room) := List.map_replicate
        rw [← e12] at sp12
        exact ⟨_, no_stand_room sh, tI_dp sp12⟩
      have q12 := r11.trans r12
      refine ⟨by show 1 ≤ sizeLine; decide, fun l13 m13 => ?_⟩
      have r13 := same_new (o := .lst [.ref p12]) m13
      have h13 : upd J12 l13 (.lst [.ref p12]) l13 = some (.lst [.ref p12]) := upd_same
      have w12 := w12.mono r13
      generalize upd J12 l13 (.lst [.ref p12]) = J13 at *
      refine ⟨l10, l13, _, _, rfl, rfl, (q12.trans r13) _ _ h10, h13, by show 6 + 1 ≤ sizeLine; decide, fun l14 m14 => ?_⟩
      have r14 := same_new (o := .lst ([.non, .ref t1, .ref l2, .ref p4, .ref p7, .ref p9] ++ [.ref p12])) m14
      have h14 : upd J13 l14 (.lst ([.non, .ref t1, .ref l2, .ref p4, .ref p7, .ref p9] ++ [.ref p12])) l14 = some (.lst ([.non, .ref t1, .ref l2, .ref p4, .ref p7, .ref p9] ++ [.ref p12])) := upd_same
      have all7 : ∀ x ∈ [.non, .ref t1, .ref l2, .ref p4, .ref p7, .ref p9] ++ [.ref p12], Dz (fun d => isStand room ls d = false) K (upd J13 l14 (.lst ([.non, .ref t1, .ref l2, .ref p4, .ref p7, .ref p9] ++ [.ref p12]))) x := fun x hx => by
        rcases List.mem_append.mp hx with hx | hx
        · exact (all6 x hx).mono ((q12.trans r13).trans r14)
        · rcases List.mem_cons.mp hx with rfl | hx
          · exact w12.mono r14
          · cases hx
      have g14 := g10.trans ((q12.trans r13).trans r14)
      have N14 := N21.same g14
      have dk14 := dk21.same g14
      generalize upd J13 l14 (.lst ([.non, .ref t1, .ref l2, .ref p4, .ref p7, .ref p9] ++ [.ref p12])) = J14 at *
      generalize [V.non, .ref t1, .ref l2, .ref p4, .ref p7, .ref p9] ++ [.ref p12] = xs7 at *
      clear all6 w1 w2 w4 w7 w9 w12 r1 r2 r3 r4 r5 r6 r7 r8 r9 r10 r11 r12 r13 r14 g2 g3 g4 g5 g6 g7 g8 g9 g10 g14 q47 q79 q12 h3 h5 h6 h8 h10 h11 h13 sp4 sp6 sp7 sp9 sp12 N21 dk21 sva svb ssa
      refine ⟨l14, rfl, ⟨_, .inl (.inl h14)⟩, ?_⟩
      refine for_list (K := K) (a := l14) (xs := xs7) (fun j σ H' => ExtN J14 H' ∧ Tabs L.tabs H' ∧ ∃ y7 y8 y9, σ = [some (.ref a), some (.int cell), some (.ref k), some (.ref t5), some xo, some (.ref p18), some (.ref l10), y7, y8, y9, some (.ref va), some (.ref sa)])
        ⟨ExtN.refl _, N14.tb, _, _, _, rfl⟩ (fun j σ H' _ p => .inl (.inl (p.1 _ _ h14 fun ps z => by cases z))) (fun j x σ Ha hx p => ?_) (fun σ Ha p => ?_)
      · obtain ⟨ea, Ta, y7, y8, y9, rfl⟩ := p
        obtain ⟨d, hd, hxd⟩ := (all7 x (List.mem_of_getElem? hx)).ext ea
        have Na := N14.ext ea Ta
        refine ⟨_, rfl, _, rfl, .ref va, x, .non, rfl, Ta, fun Hb pb f0 f1 f2 f3 f4 eb Tb hpb c0 c1 c2 c3 c4 => ?_⟩
        have Nb := Na.ext eb Tb
        have hxb := dp_ext eb hxd
        refine ⟨pb, U.C_NoStand, "NoStand+", [f0, f1, f2, f3, f4], rfl, hpb, doorsS c0 c1 c2 c3 c4 Nb.hv hxb .non (.inr ⟨room, ls, rfl, sh, hd, rfl⟩), .inr (.inl ⟨rfl, rfl⟩), by show 5 ≤ 100; decide, fun Hd sd => ⟨_, rfl, iteF ?_⟩⟩
        have Nd := Nb.same sd
        have hxd' := Dpm sd hxb
        refine ⟨_, rfl, _, rfl, _, rfl, .ref va, .ref sa, x, rfl, Nd.tb, fun He pe f0 f1 f2 f3 f4 ee Te hpe c0 c1 c2 c3 c4 => ?_⟩
        have Ne := Nd.ext ee Te
        have hxe := dp_ext ee hxd'
        refine ⟨1, rfl, 4, rfl, pe, _, rfl, .inl (.inl hpe), fun pf nf => ?_⟩
        have sf := same_new (o := .lst (cutV [.ref f0, .ref f1, .ref f2, .ref f3, .ref f4] (some 1) (some 4))) nf
        refine ⟨pf, U.C_NoStand, "NoStand+", [f1, f2, f3], rfl, upd_same, (doorsS2 c1 c2 c3 Ne.hv Ne.hs hxe (.inr ⟨room, ls, rfl, sh, isStand_ok riy sh.lo, hd, rfl⟩)).ext (ExtN.of sf), .inr (.inl ⟨rfl, rfl⟩), by show 3 ≤ 100; decide, fun Hg sg => ⟨_, rfl, iteF ?_⟩⟩
        have xg := (ea.trans eb).trans ((ExtN.of sd).trans (ee.trans (ExtN.of (sf.trans sg))))
        exact ⟨xg, (Te.ext sf).ext sg, _, _, _, rfl⟩
      · obtain ⟨ea, Ta, y7, y8, y9, rfl⟩ := p
        have Na := N14.ext ea Ta
        have dka : Dk k Ha 999958 := by
          obtain ⟨a1, a2, a3, q1, q2⟩ := dk14
          exact ⟨a1, a2, a3, ea _ _ q1 (fun ps z => by cases z), q2⟩
        clear all7 h14 N14 dk14 ea
        -- a push
        obtain ⟨lka, hka⟩ := dka.lst
        refine ⟨_, rfl, _, rfl, k, .ref va, room, ls, 999955, rfl, dp_off hka _ _ (noL_shD room ls) Na.hv, sh, dka, fun u1 Hb pu pk dkb sb hu1 => ?_⟩
        have Nb : Ina K L.tabs cells c room ls y (.ref va) (.ref sa) Hb := ⟨off_back sb nck Na.hc, tabs_off hka (fun ps z => by cases z) (fun φ z => by cases z) sb Na.tb, mvK hka sb (noL_shD room ls) Na.hv, mvK hka sb (noL_tI _) Na.hs⟩
        have hu1 := Dpm (off_same k Hb) hu1
        clear dka dkb Na sb hka
        obtain ⟨ua, x1, x2, x3, rfl, su, q1, q2, q3⟩ := dp_three hu1
        -- no row: the things
        refine ⟨Nat.zero_le _, fun t1 m1 => ?_⟩
        have r1 := same_new (o := .tup []) m1
        have w1 : Dz (fun d => isRow room ls d = false ∧ d.depth ≤ 64) K (upd Hb t1 (.tup [])) (.ref t1) := ⟨.tuple [], ⟨rfl, by decide +kernel⟩, .tup (.inl (.inl upd_same)) .nil⟩
        generalize upd Hb t1 (.tup []) = J1 at *
        refine ⟨by show 1 ≤ sizeLine; decide, fun l2 m2 => ?_⟩
        have r2 := same_new (o := .lst [.non]) m2
        have w2 : Dz (fun d => isRow room ls d = false ∧ d.depth ≤ 64) K (upd J1 l2 (.lst [.non])) (.ref l2) := ⟨.list [.none], ⟨no_row_one rfl, by decide +kernel⟩, .lst (.inl (.inl upd_same)) (.cons .non .nil)⟩
        generalize upd J1 l2 (.lst [.non]) = J2 at *
        refine ⟨_, rfl, by show 1 ≤ sizeLine; decide, fun l3 m3 => ?_⟩
        have r3 := same_new (o := .lst [.ref ua]) m3
        have h3 : upd J2 l3 (.lst [.ref ua]) l3 = some (.lst [.ref ua]) := upd_same
        generalize upd J2 l3 (.lst [.ref ua]) = J3 at *
        refine ⟨l3, 201, _, rfl, rfl, h3, by decide, by decide, by show 1 * 201 ≤ sizeLine; decide, fun l4 m4 => ?_⟩
        rw [show (List.replicate (201 : Int).toNat [V.ref ua]).flatten = List.replicate 201 (V.ref ua) from flat_rep 201]
        have r4 := same_new (o := .lst (List.replicate 201 (V.ref ua))) m4
        have g4 := r1.trans (r2.trans (r3.trans r4))
        have w4 : Dz (fun d => isRow room ls d = false ∧ d.depth ≤ 64) K (upd J3 l4 (.lst (List.replicate 201 (V.ref ua)))) (.ref l4) := ⟨.list (List.replicate 201 (puD ls pu)), ⟨no_row_long (by rw [List.length_replicate]; decide), depth_rep (puD_depth ls pu)⟩, .lst (.inl (.inl upd_same)) (dpAll_repl (Dpm g4 hu1) 201)⟩
        generalize upd J3 l4 (.lst (List.replicate 201 (V.ref ua))) = J4 at *
        refine ⟨_, rfl, by show 1 ≤ sizeLine; decide, fun t5' m5 => ?_⟩
        have r5 := same_new (o := .tup [.ref ua]) m5
        have g5 := g4.trans r5
        have w5 : Dz (fun d => isRow room ls d = false ∧ d.depth ≤ 64) K (upd J4 t5' (.tup [.ref ua])) (.ref t5') := ⟨.tuple [puD ls pu], ⟨rfl, depth_one (puD_depth ls pu)⟩, .tup (.inl (.inl upd_same)) (.cons (Dpm g5 hu1) .nil)⟩
        generalize upd J4 t5' (.tup [.ref ua]) = J5 at *
        refine ⟨_, rfl, ua, _, rfl, .inr (seqT_mono g5 su), fun l6 m6 => ?_⟩
        have r6 := same_new (o := .lst [x1, x2, x3]) m6
        have g6 := g5.trans r6
        have h6 : Dp K (upd J5 l6 (.lst [x1, x2, x3])) (.ref l6) (.list [.str (sideS pu.1), .int pu.2.1, .int (pu.2.2 + pre ls pu.2.1)]) := .lst (.inl (.inl upd_same)) (.cons (Dpm g6 q1) (.cons (Dpm g6 q2) (.cons (Dpm g6 q3) .nil)))
        generalize upd J5 l6 (.lst [x1, x2, x3]) = J6 at *
        refine ⟨by show 1 ≤ sizeLine; decide, fun l7 m7 => ?_⟩
        have r7 := same_new (o := .lst [.ref l6]) m7
        have w7 : Dz (fun d => isRow room ls d = false ∧ d.depth ≤ 64) K (upd J6 l7 (.lst [.ref l6])) (.ref l7) := ⟨.list [_], ⟨no_row_one rfl, by simp [PyData.depth, PyData.depthAll]⟩, .lst (.inl (.inl upd_same)) (.cons (Dpm r7 h6) .nil)⟩
        generalize upd J6 l7 (.lst [.ref l6]) = J7 at *
        refine ⟨by show 3 ≤ sizeLine; decide, fun t8 m8 => ?_⟩
        have r8 := same_new (o := .tup [.str "up", .int 1, .int 1]) m8
        have h8 : Dp K (upd J7 t8 (.tup [.str "up", .int 1, .int 1])) (.ref t8) (.tuple [.str "up", .int 1, .int 1]) := .tup (.inl (.inl upd_same)) (.cons (.str _) (.cons (.int _) (.cons (.int _) .nil)))
        generalize upd J7 t8 (.tup [.str "up", .int 1, .int 1]) = J8 at *
        refine ⟨by show 1 ≤ sizeLine; decide, fun l9 m9 => ?_⟩
        have r9 := same_new (o := .lst [.ref t8]) m9
        have w9 : Dz (fun d => isRow room ls d = false ∧ d.depth ≤ 64) K (upd J8 l9 (.lst [.ref t8])) (.ref l9) := ⟨.list [.tuple [.str "up", .int 1, .int 1]], ⟨no_row_one (no_push_gap gap_up), by decide +kernel⟩, .lst (.inl (.inl upd_same)) (.cons (Dpm r9 h8) .nil)⟩
        generalize upd J8 l9 (.lst [.ref t8]) = J9 at *
        refine ⟨by show 3 ≤ sizeLine; decide, fun t10 m10 => ?_⟩
        have r10 := same_new (o := .tup [.str "left", .int 0, .int 0]) m10
        have h10 : Dp K (upd J9 t10 (.tup [.str "left", .int 0, .int 0])) (.ref t10) (.tuple [.str "left", .int 0, .int 0]) := .tup (.inl (.inl upd_same)) (.cons (.str _) (.cons (.int _) (.cons (.int _) .nil)))
        generalize upd J9 t10 (.tup [.str "left", .int 0, .int 0]) = J10 at *
        refine ⟨by show 1 ≤ sizeLine; decide, fun l11 m11 => ?_⟩
        have r11 := same_new (o := .lst [.ref t10]) m11
        have w11 : Dz (fun d => isRow room ls d = false ∧ d.depth ≤ 64) K (upd J10 l11 (.lst [.ref t10])) (.ref l11) := ⟨.list [.tuple [.str "left", .int 0, .int 0]], ⟨no_row_one (no_push_gap gap_left), by decide +kernel⟩, .lst (.inl (.inl upd_same)) (.cons (Dpm r11 h10) .nil)⟩
        generalize upd J10 l11 (.lst [.ref t10]) = J11 at *
        refine ⟨by show 9 ≤ sizeLine; decide, fun l12 m12 => ?_⟩
        have r12 := same_new (o := .lst [.non, .ref t1, .ref l2, .ref l4, .ref t5', .ref l7, .ref l9, .ref l11, .str "row"]) m12
        have h12 : upd J11 l12 (.lst [.non, .ref t1, .ref l2, .ref l4, .ref t5', .ref l7, .ref l9, .ref l11, .str "row"]) l12 = some (.lst [.non, .ref t1, .ref l2, .ref l4, .ref t5', .ref l7, .ref l9, .ref l11, .str "row"]) := upd_same
        have b12 := r12
        have b10 := r10.trans (r11.trans b12)
        have b8 := r8.trans (r9.trans b10)
        have b6 := r6.trans (r7.trans b8)
        have b5 := r5.trans b6
        have all9 : ∀ x ∈ [.non, .ref t1, .ref l2, .ref l4, .ref t5', .ref l7, .ref l9, .ref l11, .str "row"], Dz (fun d => isRow room ls d = false ∧ d.depth ≤ 64) K (upd J11 l12 (.lst [.non, .ref t1, .ref l2, .ref l4, .ref t5', .ref l7, .ref l9, .ref l11, .str "row"])) x :=
          dz_cons ⟨.none, ⟨rfl, by decide +kernel⟩, .non⟩ (dz_cons (w1.mono (r2.trans (r3.trans (r4.trans b5)))) (dz_cons (w2.mono (r3.trans (r4.trans b5))) (dz_cons (w4.mono b5) (dz_cons (w5.mono b6) (dz_cons (w7.mono b8) (dz_cons (w9.mono b10) (dz_cons (w11.mono b12) (dz_cons ⟨.str "row", ⟨rfl, by decide +kernel⟩, .str _⟩ dz_nil))))))))
        have g12 := g4.trans b5
        have N12 := Nb.same g12
        have hu12 := Dpm g12 hu1
        generalize upd J11 l12 (.lst [.non, .ref t1, .ref l2, .ref l4, .ref t5', .ref l7, .ref l9, .ref l11, .str "row"]) = J12 at *
        generalize [V.non, .ref t1, .ref l2, .ref l4, .ref t5', .ref l7, .ref l9, .ref l11, .str "row"] = xs9 at *
        clear w1 w2 w4 w5 w7 w9 w11 r1 r2 r3 r4 r5 r6 r7 r8 r9 r10 r11 r12 g4 g5 g6 g12 b12 b10 b8 b6 b5 h3 h6 h8 h10 su q1 q2 q3 hu1 Nb
        have oneOk : isRow room ls (.list [puD ls pu]) = true := isRow_ok (r := [pu]) (by show 1 ≤ 200; decide) fun p hp => by
          rcases List.mem_cons.mp hp with rfl | hp
          · exact pk
          · cases hp
        refine ⟨l12, rfl, ⟨_, .inl (.inl h12)⟩, ?_⟩
        refine for_list (K := K) (a := l12) (xs := xs9) (fun j σ H' => ExtN J12 H' ∧ Tabs L.tabs H' ∧ ∃ y8 y9, σ = [some (.ref a), some (.int cell), some (.ref k), some (.ref t5), some xo, some (.ref p18), some (.ref l10), some (.ref ua), y8, y9, some (.ref va), some (.ref sa)])
          ⟨ExtN.refl _, N12.tb, _, _, rfl⟩ (fun j σ H' _ p => .inl (.inl (p.1 _ _ h12 fun ps z => by cases z))) (fun j x σ Ha hx p => ?_) (fun σ Ha p => ?_)
        · obtain ⟨ea, Ta, y8, y9, rfl⟩ := p
          obtain ⟨d, ⟨hd, hdd⟩, hxd⟩ := (all9 x (List.mem_of_getElem? hx)).ext ea
          have Na := N12.ext ea Ta
          have hua := dp_ext ea hu12
          refine ⟨_, rfl, _, rfl, .ref va, x, .non, rfl, Ta, fun Hb pb g0 g1 g2 eb Tb hpb b0 b1 b2 => ?_⟩
          have Nb := Na.ext eb Tb
          have hxb := dp_ext eb hxd
          refine ⟨pb, U.C_NoRow, "NoRow+", [g0, g1, g2], rfl, hpb, doorsR b0 b1 b2 Nb.hv hxb .non (.inr ⟨room, ls, rfl, sh, hd, hdd, rfl⟩), .inr (.inr (.inl ⟨rfl, rfl⟩)), by show 3 ≤ 100; decide, fun Hd sd => ⟨_, rfl, iteF ?_⟩⟩
          have Nd := Nb.same sd
          have hxd' := Dpm sd hxb
          have hud := Dpm sd (dp_ext eb hua)
          refine ⟨_, rfl, _, rfl, by show 1 ≤ sizeLine; decide, fun lr mr => ?_⟩
          have sr := same_new (o := .lst [.ref ua]) mr
          have hlr : Dp K (upd Hd lr (.lst [.ref ua])) (.ref lr) (.list [puD ls pu]) := .lst (.inl (.inl upd_same)) (.cons (Dpm sr hud) .nil)
          have Nr := Nd.same sr
          have hxr := Dpm sr hxd'
          generalize upd Hd lr (.lst [.ref ua]) = Hr at *
          refine ⟨_, rfl, .ref va, .ref lr, x, rfl, Nr.tb, fun He pe g0 g1 g2 ee Te hpe b0 b1 b2 => ?_⟩
          have Ne := Nr.ext ee Te
          have hxe := dp_ext ee hxr
          have hle := dp_ext ee hlr
          refine ⟨1, rfl, pe, _, rfl, .inl (.inl hpe), fun pf nf => ?_⟩
          have sf := same_new (o := .lst (cutV [.ref g0, .ref g1, .ref g2] (some 1) none)) nf
          refine ⟨pf, U.C_NoRow, "NoRow+", [g1, g2], rfl, upd_same, (doorsR2 b1 b2 Ne.hv hle hxe (.inr ⟨room, ls, rfl, sh, oneOk, depth_one' (puD_depth ls pu), hd, hdd, rfl⟩)).ext (ExtN.of sf), .inr (.inr (.inl ⟨rfl, rfl⟩)), by show 2 ≤ 100; decide, fun Hg sg => ⟨_, rfl, iteF ?_⟩⟩
          have xg := (ea.trans eb).trans ((ExtN.of (sd.trans sr)).trans (ee.trans (ExtN.of (sf.trans sg))))
          have Tg := (Te.ext sf).ext sg
          have Ng := Ne.ext (ExtN.of (sf.trans sg)) Tg
          have hxg := Dpm (sf.trans sg) hxe
          refine ⟨Tg, fun Hh eh Th => ?_⟩
          have Nh := Ng.ext eh Th
          have hxh := dp_ext eh hxg
          refine ⟨_, rfl, _, rfl, _, rfl, .ref va, .ref sa, x, _, _, d, U.C_NoRow, rfl, Nh.hv, Nh.hs, hxh, .inr ⟨room, ls, rfl, sh, isStand_ok riy sh.lo, hd, hdd, rfl⟩, fun Hi si => ⟨_, _, .inr (.inr (.inl ⟨rfl, rfl⟩)), rfl, rfl, fun Hj sj => ⟨rfl, _, rfl, iteNS rfl ?_⟩⟩⟩
          have sij := si.trans sj
          exact ⟨xg.trans (eh.trans (ExtN.of sij)), Th.ext sij, _, _, rfl⟩
        · obtain ⟨ea, Ta, y8, y9, rfl⟩ := p
          have Na := N12.ext ea Ta
          clear all9 h12 N12 ea hu12 oneOk
          -- a doing
          obtain ⟨sa', es, ssa⟩ := dp_tI Na.hs
          cases es
          refine ⟨_, rfl, _, rfl, by show 2 ≤ sizeLine; decide, fun tg mg' => ?_⟩
          have r0 := same_new (o := .tup [.ref sa, .ref sa]) mg'
          have hg : Dp K (upd Ha tg (.tup [.ref sa, .ref sa])) (.ref tg) (dgD ls y y) := .tup (.inl (.inl upd_same)) (.cons (Dpm r0 Na.hs) (.cons (Dpm r0 Na.hs) .nil))
          have goodOk : isDoing room ls (dgD ls y y) = true := isDoing_ok sh.lo ⟨riy, riy, fun j _ => Int.le_refl _⟩
          have N0 := Na.same r0
          have ssa := seqT_mono r0 ssa
          generalize upd Ha tg (.tup [.ref sa, .ref sa]) = J0 at *
          refine ⟨Nat.zero_le _, fun t1 m1 => ?_⟩
          have r1 := same_new (o := .tup []) m1
          have w1 : Dz (fun d => isDoing room ls d = false) K (upd J0 t1 (.tup [])) (.ref t1) := ⟨.tuple [], rfl, .tup (.inl (.inl upd_same)) .nil⟩
          generalize upd J0 t1 (.tup []) = J1 at *
          refine ⟨_, rfl, _, rfl, _, rfl, by show 2 ≤ sizeLine; decide, fun l2 m2 => ?_⟩
          have r2 := same_new (o := .lst [.ref sa, .ref sa]) m2
          have g2 := r1.trans r2
          have w2 : Dz (fun d => isDoing room ls d = false) K (upd J1 l2 (.lst [.ref sa, .ref sa])) (.ref l2) := ⟨.list [_, _], rfl, .lst (.inl (.inl upd_same)) (.cons (Dpm g2 N0.hs) (.cons (Dpm g2 N0.hs) .nil))⟩
          generalize upd J1 l2 (.lst [.ref sa, .ref sa]) = J2 at *
          refine ⟨_, rfl, by show 1 ≤ sizeLine; decide, fun t3 m3 => ?_⟩
          have r3 := same_new (o := .tup [.ref sa]) m3
          have g3 := g2.trans r3
          have w3 : Dz (fun d => isDoing room ls d = false) K (upd J2 t3 (.tup [.ref sa])) (.ref t3) := ⟨.tuple [_], rfl, .tup (.inl (.inl upd_same)) (.cons (Dpm g3 N0.hs) .nil)⟩
          generalize upd J2 t3 (.tup [.ref sa]) = J3 at *
          refine ⟨_, rfl, by show 2 ≤ sizeLine; decide, fun t4 m4 => ?_⟩
          have r4 := same_new (o := .tup [.ref sa, .non]) m4
          have g4 := g3.trans r4
          have w4 : Dz (fun d => isDoing room ls d = false) K (upd J3 t4 (.tup [.ref sa, .non])) (.ref t4) := ⟨.tuple [tI (stL ls y), .none], rfl, .tup (.inl (.inl upd_same)) (.cons (Dpm g4 N0.hs) (.cons .non .nil))⟩
          generalize upd J3 t4 (.tup [.ref sa, .non]) = J4 at *
          refine ⟨_, rfl, _, rfl, sa, _, rfl, .inr (seqT_mono g4 ssa), fun l5 m5 => ?_⟩
          have r5 := same_new (o := .lst (iV (stL ls y))) m5
          have h5 : Dp K (upd J4 l5 (.lst (iV (stL ls y)))) (.ref l5) (.list (iD (stL ls y))) := .lst (.inl (.inl upd_same)) (ints_dpAll _)
          generalize upd J4 l5 (.lst (iV (stL ls y))) = J5 at *
          refine ⟨by show 2 ≤ sizeLine; decide, fun t6 m6 => ?_⟩
          have r6 := same_new (o := .tup [.ref sa, .ref l5]) m6
          have g6 := g4.trans (r5.trans r6)
          have w6 : Dz (fun d => isDoing room ls d = false) K (upd J5 t6 (.tup [.ref sa, .ref l5])) (.ref t6) := ⟨.tuple [tI (stL ls y), .list (iD (stL ls y))], rfl, .tup (.inl (.inl upd_same)) (.cons (Dpm g6 N0.hs) (.cons (Dpm r6 h5) .nil))⟩
          generalize upd J5 t6 (.tup [.ref sa, .ref l5]) = J6 at *
          refine ⟨by show 7 ≤ sizeLine; decide, fun l7 m7 => ?_⟩
          have r7 := same_new (o := .lst [.non, .ref t1, .ref sa, .ref l2, .ref t3, .ref t4, .ref t6]) m7
          have h7 : upd J6 l7 (.lst [.non, .ref t1, .ref sa, .ref l2, .ref t3, .ref t4, .ref t6]) l7 = some (.lst [.non, .ref t1, .ref sa, .ref l2, .ref t3, .ref t4, .ref t6]) := upd_same
          have b4 := r5.trans (r6.trans r7)
          have b3 := r4.trans b4
          have b2 := r3.trans b3
          have g7 := g6.trans r7
          have N7 := N0.same g7
          have all7 : ∀ x ∈ [.non, .ref t1, .ref sa, .ref l2, .ref t3, .ref t4, .ref t6], Dz (fun d => isDoing room ls d = false) K (upd J6 l7 (.lst [.non, .ref t1, .ref sa, .ref l2, .ref t3, .ref t4, .ref t6])) x :=
            dz_cons ⟨.none, rfl, .non⟩ (dz_cons (w1.mono (r2.trans b2)) (dz_cons ⟨_, no_doing_ints, N7.hs⟩ (dz_cons (w2.mono b2) (dz_cons (w3.mono b3) (dz_cons (w4.mono b4) (dz_cons (w6.mono r7) dz_nil))))))
          have hg7 := Dpm g7 hg
          generalize upd J6 l7 (.lst [.non, .ref t1, .ref sa, .ref l2, .ref t3, .ref t4, .ref t6]) = J7 at *
          generalize [V.non, .ref t1, .ref sa, .ref l2, .ref t3, .ref t4, .ref t6] = xs7' at *
          clear w1 w2 w3 w4 w6 r0 r1 r2 r3 r4 r5 r6 r7 g2 g3 g4 g6 g7 b4 b3 b2 h5 N0 Na hg ssa
          refine ⟨l7, rfl, ⟨_, .inl (.inl h7)⟩, ?_⟩
          refine for_list (K := K) (a := l7) (xs := xs7') (fun j σ H' => ExtN J7 H' ∧ Tabs L.tabs H' ∧ ∃ y8, σ = [some (.ref a), some (.int cell), some (.ref k), some (.ref t5), some xo, some (.ref p18), some (.ref l10), some (.ref ua), y8, some (.ref tg), some (.ref va), some (.ref sa)])
            ⟨ExtN.refl _, N7.tb, _, rfl⟩ (fun j σ H' _ p => .inl (.inl (p.1 _ _ h7 fun ps z => by cases z))) (fun j x σ Ha hx p => ?_) (fun σ Ha p => ?_)
          · obtain ⟨ea, Ta, y8, rfl⟩ := p
            obtain ⟨d, hd, hxd⟩ := (all7 x (List.mem_of_getElem? hx)).ext ea
            have Na := N7.ext ea Ta
            have hga := dp_ext ea hg7
            refine ⟨_, rfl, _, rfl, .ref va, x, .non, rfl, Ta, fun Hb pb g0 g1 g2 g3 eb Tb hpb b0 b1 b2 b3 => ?_⟩
            have Nb := Na.ext eb Tb
            have hxb := dp_ext eb hxd
            refine ⟨pb, U.C_NoDoing, "NoDoing+", [g0, g1, g2, g3], rfl, hpb, doorsG b0 b1 b2 b3 Nb.hv hxb .non (.inr ⟨room, ls, rfl, sh, hd, rfl⟩), .inr (.inr (.inr ⟨rfl, rfl⟩)), by show 4 ≤ 100; decide, fun Hd sd => ⟨_, rfl, iteF ?_⟩⟩
            have Nd := Nb.same sd
            have hxd' := Dpm sd hxb
            have hgd := Dpm sd (dp_ext eb hga)
            refine ⟨Nd.tb, fun Hh eh Th => ?_⟩
            have Nh := Nd.ext eh Th
            have hxh := dp_ext eh hxd'
            have hgh := dp_ext eh hgd
            refine ⟨_, rfl, _, rfl, _, rfl, .ref va, .ref tg, x, _, _, d, U.C_NoDoing, rfl, Nh.hv, hgh, hxh, .inr ⟨room, ls, rfl, sh, goodOk, hd, rfl⟩, fun Hi si => ⟨_, _, .inr (.inr (.inr ⟨rfl, rfl⟩)), rfl, rfl, fun Hj sj => ⟨rfl, _, rfl, iteNS rfl ?_⟩⟩⟩
            have sij := si.trans sj
            exact ⟨(ea.trans eb).trans ((ExtN.of sd).trans (eh.trans (ExtN.of sij))), Th.ext sij, _, rfl⟩
          · obtain ⟨ea, Ta, y8, rfl⟩ := p
            have Na := N7.ext ea Ta
            have hga := dp_ext ea hg7
            refine ⟨_, rfl, _, rfl, .ref va, .ref tg, .non, rfl, Ta, fun Hb pb g0 g1 g2 g3 eb Tb hpb b0 b1 b2 b3 => ?_⟩
            have Nb := Na.ext eb Tb
            have hgb := dp_ext eb hga
            refine ⟨1, rfl, 3, rfl, pb, _, rfl, .inl (.inl hpb), fun pf nf => ?_⟩
            have sf := same_new (o := .lst (cutV [.ref g0, .ref g1, .ref g2, .ref g3] (some 1) (some 3))) nf
            refine ⟨pf, U.C_NoStand, "NoStand+", [g1, g2], rfl, upd_same, (doorsG2 b1 b2 Nb.hv hgb (.inr ⟨room, ls, rfl, sh, goodOk, rfl, rfl⟩)).ext (ExtN.of sf), .inr (.inl ⟨rfl, rfl⟩), by show 2 ≤ 100; decide, fun Hg sg => ⟨_, rfl, iteF ?_⟩⟩
            have Ng := Nb.same (sf.trans sg)
            exact ⟨Ng.hc, Ng.tb, _, _, _, _, _, _, _, _, _, _, _, rfl⟩
    · exact q _
end PS

namespace PS
open PySem PySem.Spec PyProof.Rows L2 LamX HT L2H
theorem all_mk {l : PySem.W.OpenLaw} {w : World} {K : PySem.W.Frag} {h : Heap} {mg : Str → Option Value} {fa : Addr} {qq : Program} (X : K.In h) (G : h.Ns mainGlobals mg) (hfa : mg "law" = some (.ref fa)) (TQ : TabsAt qq K h)
    (rq0 : ((recsOf qq).any fun e => e.name == ("_law_by_stand" : Str)) = true)
    (rq1 : ((recsOf qq).any fun e => e.name == ("_law_by_row" : Str)) = true)
    (rq2 : ((recsOf qq).any fun e => e.name == ("_law_by_doing" : Str)) = true)
    (rq3 : ((recsOf qq).any fun e => e.name == ("_law_by_shelf" : Str)) = true)
    (rq4 : ((recsOf qq).any fun e => e.name == ("law" : Str)) = true)
    {C_Band : Addr}
    {C_Bench : Addr}
    {C_ShelfError C_NoShelf C_NoStand C_NoRow C_NoDoing C_NoPush C_NoWish : Addr}
    (aC_ShelfError : PySem.W.nsIn K mainGlobals "ShelfError" = some (some (.ref C_ShelfError)))
    (aC_NoShelf : PySem.W.nsIn K mainGlobals "NoShelf" = some (some (.ref C_NoShelf)))
    (aC_NoStand : PySem.W.nsIn K mainGlobals "NoStand" = some (some (.ref C_NoStand)))
    (aC_NoRow : PySem.W.nsIn K mainGlobals "NoRow" = some (some (.ref C_NoRow)))
    (aC_NoDoing : PySem.W.nsIn K mainGlobals "NoDoing" = some (some (.ref C_NoDoing)))
    (aC_NoPush : PySem.W.nsIn K mainGlobals "NoPush" = some (some (.ref C_NoPush)))
    (aC_NoWish : PySem.W.nsIn K mainGlobals "NoWish" = some (some (.ref C_NoWish)))
    {f0 : Addr} {od0 an0 : Option Addr} {sl0 : Array (Option Value)} {oc0 kV0 dc0 pm0 ct0 : Value} {cd0 : Value}
    (a0 : PySem.W.nsIn K mainGlobals "_wall" = some (some (.ref f0))) (l0 : K.lookup f0 = some ⟨oc0, od0, .func (PySem.W.fnOf "_wall" "_wall" (defArgs s_wall) (defBody s_wall) (defScope s_wall) .none kV0 dc0 pm0 an0 cd0 ct0), sl0⟩) (c0 : PySem.W.codeIn K cd0 "_wall" = true) (k0 : PySem.W.keepIn K (.ref f0) = true)
    {f1 : Addr} {od1 an1 : Option Addr} {sl1 : Array (Option Value)} {oc1 kV1 dc1 pm1 ct1 : Value} {cd1 : Value}
    (a1 : PySem.W.nsIn K mainGlobals "is_whole" = some (some (.ref f1))) (l1 : K.lookup f1 = some ⟨oc1, od1, .func (PySem.W.fnOf "is_whole" "is_whole" (defArgs s_is_whole) (defBody s_is_whole) (defScope s_is_whole) .none kV1 dc1 pm1 an1 cd1 ct1), sl1⟩) (c1 : PySem.W.codeIn K cd1 "is_whole" = true) (k1 : PySem.W.keepIn K (.ref f1) = true)
    {f2 : Addr} {od2 an2 : Option Addr} {sl2 : Array (Option Value)} {oc2 kV2 dc2 pm2 ct2 : Value} {cd2 : Value}
    (a2 : PySem.W.nsIn K mainGlobals "is_within" = some (some (.ref f2))) (l2 : K.lookup f2 = some ⟨oc2, od2, .func (PySem.W.fnOf "is_within" "is_within" (defArgs s_is_within) (defBody s_is_within) (defScope s_is_within) .none kV2 dc2 pm2 an2 cd2 ct2), sl2⟩) (c2 : PySem.W.codeIn K cd2 "is_within" = true) (k2 : PySem.W.keepIn K (.ref f2) = true)
    {f3 : Addr} {od3 an3 : Option Addr} {sl3 : Array (Option Value)} {oc3 kV3 dc3 pm3 ct3 : Value} {cd3 : Value}
    (a3 : PySem.W.nsIn K mainGlobals "is_tuple_of" = some (some (.ref f3))) (l3 : K.lookup f3 = some ⟨oc3, od3, .func (PySem.W.fnOf "is_tuple_of" "is_tuple_of" (defArgs s_is_tuple_of) (defBody s_is_tuple_of) (defScope s_is_tuple_of) .none kV3 dc3 pm3 an3 cd3 ct3), sl3⟩) (c3 : PySem.W.codeIn K cd3 "is_tuple_of" = true) (k3 : PySem.W.keepIn K (.ref f3) = true)
    {f4 : Addr} {od4 an4 : Option Addr} {sl4 : Array (Option Value)} {oc4 kV4 dc4 pm4 ct4 : Value} {cd4 : Value}
    (a4 : PySem.W.nsIn K mainGlobals "are_blocks" = some (some (.ref f4))) (l4 : K.lookup f4 = some ⟨oc4, od4, .func (PySem.W.fnOf "are_blocks" "are_blocks" (defArgs s_are_blocks) (defBody s_are_blocks) (defScope s_are_blocks) .none kV4 dc4 pm4 an4 cd4 ct4), sl4⟩) (c4 : PySem.W.codeIn K cd4 "are_blocks" = true) (k4 : PySem.W.keepIn K (.ref f4) = true)
    {f5 : Addr} {od5 an5 : Option Addr} {sl5 : Array (Option Value)} {oc5 kV5 dc5 pm5 ct5 : Value} {cd5 : Value}
    (a5 : PySem.W.nsIn K mainGlobals "is_shelf" = some (some (.ref f5))) (l5 : K.lookup f5 = some ⟨oc5, od5, .func (PySem.W.fnOf "is_shelf" "is_shelf" (defArgs s_is_shelf) (defBody s_is_shelf) (defScope s_is_shelf) .none kV5 dc5 pm5 an5 cd5 ct5), sl5⟩) (c5 : PySem.W.codeIn K cd5 "is_shelf" = true) (k5 : PySem.W.keepIn K (.ref f5) = true)
    {f6 : Addr} {od6 an6 : Option Addr} {sl6 : Array (Option Value)} {oc6 kV6 dc6 pm6 ct6 : Value} {cd6 : Value}
    (a6 : PySem.W.nsIn K mainGlobals "need_shelf" = some (some (.ref f6))) (l6 : K.lookup f6 = some ⟨oc6, od6, .func (PySem.W.fnOf "need_shelf" "need_shelf" (defArgs s_need_shelf) (defBody s_need_shelf) (defScope s_need_shelf) .none kV6 dc6 pm6 an6 cd6 ct6), sl6⟩) (c6 : PySem.W.codeIn K cd6 "need_shelf" = true) (k6 : PySem.W.keepIn K (.ref f6) = true)
    {f7 : Addr} {od7 an7 : Option Addr} {sl7 : Array (Option Value)} {oc7 kV7 dc7 pm7 ct7 : Value} {cd7 : Value}
    (a7 : PySem.W.nsIn K mainGlobals "play_of" = some (some (.ref f7))) (l7 : K.lookup f7 = some ⟨oc7, od7, .func (PySem.W.fnOf "play_of" "play_of" (defArgs s_play_of) (defBody s_play_of) (defScope s_play_of) .none kV7 dc7 pm7 an7 cd7 ct7), sl7⟩) (c7 : PySem.W.codeIn K cd7 "play_of" = true) (k7 : PySem.W.keepIn K (.ref f7) = true)
    {f8 : Addr} {od8 an8 : Option Addr} {sl8 : Array (Option Value)} {oc8 kV8 dc8 pm8 ct8 : Value} {cd8 : Value}
    (a8 : PySem.W.nsIn K mainGlobals "gap_length" = some (some (.ref f8))) (l8 : K.lookup f8 = some ⟨oc8, od8, .func (PySem.W.fnOf "gap_length" "gap_length" (defArgs s_gap_length) (defBody s_gap_length) (defScope s_gap_length) .none kV8 dc8 pm8 an8 cd8 ct8), sl8⟩) (c8 : PySem.W.codeIn K cd8 "gap_length" = true) (k8 : PySem.W.keepIn K (.ref f8) = true)
    {f9 : Addr} {od9 an9 : Option Addr} {sl9 : Array (Option Value)} {oc9 kV9 dc9 pm9 ct9 : Value} {cd9 : Value}
    (a9 : PySem.W.nsIn K mainGlobals "places_of" = some (some (.ref f9))) (l9 : K.lookup f9 = some ⟨oc9, od9, .func (PySem.W.fnOf "places_of" "places_of" (defArgs s_places_of) (defBody s_places_of) (defScope s_places_of) .none kV9 dc9 pm9 an9 cd9 ct9), sl9⟩) (c9 : PySem.W.codeIn K cd9 "places_of" = true) (k9 : PySem.W.keepIn K (.ref f9) = true)
    {f10 : Addr} {od10 an10 : Option Addr} {sl10 : Array (Option Value)} {oc10 kV10 dc10 pm10 ct10 : Value} {cd10 : Value}
    (a10 : PySem.W.nsIn K mainGlobals "packed" = some (some (.ref f10))) (l10 : K.lookup f10 = some ⟨oc10, od10, .func (PySem.W.fnOf "packed" "packed" (defArgs s_packed) (defBody s_packed) (defScope s_packed) .none kV10 dc10 pm10 an10 cd10 ct10), sl10⟩) (c10 : PySem.W.codeIn K cd10 "packed" = true) (k10 : PySem.W.keepIn K (.ref f10) = true)
    {f11 : Addr} {od11 an11 : Option Addr} {sl11 : Array (Option Value)} {oc11 kV11 dc11 pm11 ct11 : Value} {cd11 : Value}
    (a11 : PySem.W.nsIn K mainGlobals "leftmost" = some (some (.ref f11))) (l11 : K.lookup f11 = some ⟨oc11, od11, .func (PySem.W.fnOf "leftmost" "leftmost" (defArgs s_leftmost) (defBody s_leftmost) (defScope s_leftmost) .none kV11 dc11 pm11 an11 cd11 ct11), sl11⟩) (c11 : PySem.W.codeIn K cd11 "leftmost" = true) (k11 : PySem.W.keepIn K (.ref f11) = true)
    {f12 : Addr} {od12 an12 : Option Addr} {sl12 : Array (Option Value)} {oc12 kV12 dc12 pm12 ct12 : Value} {cd12 : Value}
    (a12 : PySem.W.nsIn K mainGlobals "rightmost" = some (some (.ref f12))) (l12 : K.lookup f12 = some ⟨oc12, od12, .func (PySem.W.fnOf "rightmost" "rightmost" (defArgs s_rightmost) (defBody s_rightmost) (defScope s_rightmost) .none kV12 dc12 pm12 an12 cd12 ct12), sl12⟩) (c12 : PySem.W.codeIn K cd12 "rightmost" = true) (k12 : PySem.W.keepIn K (.ref f12) = true)
    {f13 : Addr} {od13 an13 : Option Addr} {sl13 : Array (Option Value)} {oc13 kV13 dc13 pm13 ct13 : Value} {cd13 : Value}
    (a13 : PySem.W.nsIn K mainGlobals "is_stand" = some (some (.ref f13))) (l13 : K.lookup f13 = some ⟨oc13, od13, .func (PySem.W.fnOf "is_stand" "is_stand" (defArgs s_is_stand) (defBody s_is_stand) (defScope s_is_stand) .none kV13 dc13 pm13 an13 cd13 ct13), sl13⟩) (c13 : PySem.W.codeIn K cd13 "is_stand" = true) (k13 : PySem.W.keepIn K (.ref f13) = true)
    {f14 : Addr} {od14 an14 : Option Addr} {sl14 : Array (Option Value)} {oc14 kV14 dc14 pm14 ct14 : Value} {cd14 : Value}
    (a14 : PySem.W.nsIn K mainGlobals "need_stand" = some (some (.ref f14))) (l14 : K.lookup f14 = some ⟨oc14, od14, .func (PySem.W.fnOf "need_stand" "need_stand" (defArgs s_need_stand) (defBody s_need_stand) (defScope s_need_stand) .none kV14 dc14 pm14 an14 cd14 ct14), sl14⟩) (c14 : PySem.W.codeIn K cd14 "need_stand" = true) (k14 : PySem.W.keepIn K (.ref f14) = true)
    {f15 : Addr} {od15 an15 : Option Addr} {sl15 : Array (Option Value)} {oc15 kV15 dc15 pm15 ct15 : Value} {cd15 : Value}
    (a15 : PySem.W.nsIn K mainGlobals "is_gap" = some (some (.ref f15))) (l15 : K.lookup f15 = some ⟨oc15, od15, .func (PySem.W.fnOf "is_gap" "is_gap" (defArgs s_is_gap) (defBody s_is_gap) (defScope s_is_gap) .none kV15 dc15 pm15 an15 cd15 ct15), sl15⟩) (c15 : PySem.W.codeIn K cd15 "is_gap" = true) (k15 : PySem.W.keepIn K (.ref f15) = true)
    {f16 : Addr} {od16 an16 : Option Addr} {sl16 : Array (Option Value)} {oc16 kV16 dc16 pm16 ct16 : Value} {cd16 : Value}
    (a16 : PySem.W.nsIn K mainGlobals "is_push" = some (some (.ref f16))) (l16 : K.lookup f16 = some ⟨oc16, od16, .func (PySem.W.fnOf "is_push" "is_push" (defArgs s_is_push) (defBody s_is_push) (defScope s_is_push) .none kV16 dc16 pm16 an16 cd16 ct16), sl16⟩) (c16 : PySem.W.codeIn K cd16 "is_push" = true) (k16 : PySem.W.keepIn K (.ref f16) = true)
    {f17 : Addr} {od17 an17 : Option Addr} {sl17 : Array (Option Value)} {oc17 kV17 dc17 pm17 ct17 : Value} {cd17 : Value}
    (a17 : PySem.W.nsIn K mainGlobals "is_row" = some (some (.ref f17))) (l17 : K.lookup f17 = some ⟨oc17, od17, .func (PySem.W.fnOf "is_row" "is_row" (defArgs s_is_row) (defBody s_is_row) (defScope s_is_row) .none kV17 dc17 pm17 an17 cd17 ct17), sl17⟩) (c17 : PySem.W.codeIn K cd17 "is_row" = true) (k17 : PySem.W.keepIn K (.ref f17) = true)
    {f18 : Addr} {od18 an18 : Option Addr} {sl18 : Array (Option Value)} {oc18 kV18 dc18 pm18 ct18 : Value} {cd18 : Value}
    (a18 : PySem.W.nsIn K mainGlobals "need_row" = some (some (.ref f18))) (l18 : K.lookup f18 = some ⟨oc18, od18, .func (PySem.W.fnOf "need_row" "need_row" (defArgs s_need_row) (defBody s_need_row) (defScope s_need_row) .none kV18 dc18 pm18 an18 cd18 ct18), sl18⟩) (c18 : PySem.W.codeIn K cd18 "need_row" = true) (k18 : PySem.W.keepIn K (.ref f18) = true)
    {f19 : Addr} {od19 an19 : Option Addr} {sl19 : Array (Option Value)} {oc19 kV19 dc19 pm19 ct19 : Value} {cd19 : Value}
    (a19 : PySem.W.nsIn K mainGlobals "pushed_right" = some (some (.ref f19))) (l19 : K.lookup f19 = some ⟨oc19, od19, .func (PySem.W.fnOf "pushed_right" "pushed_right" (defArgs s_pushed_right) (defBody s_pushed_right) (defScope s_pushed_right) .none kV19 dc19 pm19 an19 cd19 ct19), sl19⟩) (c19 : PySem.W.codeIn K cd19 "pushed_right" = true) (k19 : PySem.W.keepIn K (.ref f19) = true)
    {f20 : Addr} {od20 an20 : Option Addr} {sl20 : Array (Option Value)} {oc20 kV20 dc20 pm20 ct20 : Value} {cd20 : Value}
    (a20 : PySem.W.nsIn K mainGlobals "pushed_left" = some (some (.ref f20))) (l20 : K.lookup f20 = some ⟨oc20, od20, .func (PySem.W.fnOf "pushed_left" "pushed_left" (defArgs s_pushed_left) (defBody s_pushed_left) (defScope s_pushed_left) .none kV20 dc20 pm20 an20 cd20 ct20), sl20⟩) (c20 : PySem.W.codeIn K cd20 "pushed_left" = true) (k20 : PySem.W.keepIn K (.ref f20) = true)
    {f21 : Addr} {od21 an21 : Option Addr} {sl21 : Array (Option Value)} {oc21 kV21 dc21 pm21 ct21 : Value} {cd21 : Value}
    (a21 : PySem.W.nsIn K mainGlobals "pushed" = some (some (.ref f21))) (l21 : K.lookup f21 = some ⟨oc21, od21, .func (PySem.W.fnOf "pushed" "pushed" (defArgs s_pushed) (defBody s_pushed) (defScope s_pushed) .none kV21 dc21 pm21 an21 cd21 ct21), sl21⟩) (c21 : PySem.W.codeIn K cd21 "pushed" = true) (k21 : PySem.W.keepIn K (.ref f21) = true)
    {f22 : Addr} {od22 an22 : Option Addr} {sl22 : Array (Option Value)} {oc22 kV22 dc22 pm22 ct22 : Value} {cd22 : Value}
    (a22 : PySem.W.nsIn K mainGlobals "done" = some (some (.ref f22))) (l22 : K.lookup f22 = some ⟨oc22, od22, .func (PySem.W.fnOf "done" "done" (defArgs s_done) (defBody s_done) (defScope s_done) .none kV22 dc22 pm22 an22 cd22 ct22), sl22⟩) (c22 : PySem.W.codeIn K cd22 "done" = true) (k22 : PySem.W.keepIn K (.ref f22) = true)
    {f23 : Addr} {od23 an23 : Option Addr} {sl23 : Array (Option Value)} {oc23 kV23 dc23 pm23 ct23 : Value} {cd23 : Value}
    (a23 : PySem.W.nsIn K mainGlobals "behind" = some (some (.ref f23))) (l23 : K.lookup f23 = some ⟨oc23, od23, .func (PySem.W.fnOf "behind" "behind" (defArgs s_behind) (defBody s_behind) (defScope s_behind) .none kV23 dc23 pm23 an23 cd23 ct23), sl23⟩) (c23 : PySem.W.codeIn K cd23 "behind" = true) (k23 : PySem.W.keepIn K (.ref f23) = true)
    {f24 : Addr} {od24 an24 : Option Addr} {sl24 : Array (Option Value)} {oc24 kV24 dc24 pm24 ct24 : Value} {cd24 : Value}
    (a24 : PySem.W.nsIn K mainGlobals "doing_of" = some (some (.ref f24))) (l24 : K.lookup f24 = some ⟨oc24, od24, .func (PySem.W.fnOf "doing_of" "doing_of" (defArgs s_doing_of) (defBody s_doing_of) (defScope s_doing_of) .none kV24 dc24 pm24 an24 cd24 ct24), sl24⟩) (c24 : PySem.W.codeIn K cd24 "doing_of" = true) (k24 : PySem.W.keepIn K (.ref f24) = true)
    {f25 : Addr} {od25 an25 : Option Addr} {sl25 : Array (Option Value)} {oc25 kV25 dc25 pm25 ct25 : Value} {cd25 : Value}
    (a25 : PySem.W.nsIn K mainGlobals "is_doing" = some (some (.ref f25))) (l25 : K.lookup f25 = some ⟨oc25, od25, .func (PySem.W.fnOf "is_doing" "is_doing" (defArgs s_is_doing) (defBody s_is_doing) (defScope s_is_doing) .none kV25 dc25 pm25 an25 cd25 ct25), sl25⟩) (c25 : PySem.W.codeIn K cd25 "is_doing" = true) (k25 : PySem.W.keepIn K (.ref f25) = true)
    {f26 : Addr} {od26 an26 : Option Addr} {sl26 : Array (Option Value)} {oc26 kV26 dc26 pm26 ct26 : Value} {cd26 : Value}
    (a26 : PySem.W.nsIn K mainGlobals "need_doing" = some (some (.ref f26))) (l26 : K.lookup f26 = some ⟨oc26, od26, .func (PySem.W.fnOf "need_doing" "need_doing" (defArgs s_need_doing) (defBody s_need_doing) (defScope s_need_doing) .none kV26 dc26 pm26 an26 cd26 ct26), sl26⟩) (c26 : PySem.W.codeIn K cd26 "need_doing" = true) (k26 : PySem.W.keepIn K (.ref f26) = true)
    {f27 : Addr} {od27 an27 : Option Addr} {sl27 : Array (Option Value)} {oc27 kV27 dc27 pm27 ct27 : Value} {cd27 : Value}
    (a27 : PySem.W.nsIn K mainGlobals "held_within" = some (some (.ref f27))) (l27 : K.lookup f27 = some ⟨oc27, od27, .func (PySem.W.fnOf "held_within" "held_within" (defArgs s_held_within) (defBody s_held_within) (defScope s_held_within) .none kV27 dc27 pm27 an27 cd27 ct27), sl27⟩) (c27 : PySem.W.codeIn K cd27 "held_within" = true) (k27 : PySem.W.keepIn K (.ref f27) = true)
    {f28 : Addr} {od28 an28 : Option Addr} {sl28 : Array (Option Value)} {oc28 kV28 dc28 pm28 ct28 : Value} {cd28 : Value}
    (a28 : PySem.W.nsIn K mainGlobals "led" = some (some (.ref f28))) (l28 : K.lookup f28 = some ⟨oc28, od28, .func (PySem.W.fnOf "led" "led" (defArgs s_led) (defBody s_led) (defScope s_led) .none kV28 dc28 pm28 an28 cd28 ct28), sl28⟩) (c28 : PySem.W.codeIn K cd28 "led" = true) (k28 : PySem.W.keepIn K (.ref f28) = true)
    {f29 : Addr} {od29 an29 : Option Addr} {sl29 : Array (Option Value)} {oc29 kV29 dc29 pm29 ct29 : Value} {cd29 : Value}
    (a29 : PySem.W.nsIn K mainGlobals "joined" = some (some (.ref f29))) (l29 : K.lookup f29 = some ⟨oc29, od29, .func (PySem.W.fnOf "joined" "joined" (defArgs s_joined) (defBody s_joined) (defScope s_joined) .none kV29 dc29 pm29 an29 cd29 ct29), sl29⟩) (c29 : PySem.W.codeIn K cd29 "joined" = true) (k29 : PySem.W.keepIn K (.ref f29) = true)
    {f30 : Addr} {od30 an30 : Option Addr} {sl30 : Array (Option Value)} {oc30 kV30 dc30 pm30 ct30 : Value} {cd30 : Value}
    (a30 : PySem.W.nsIn K mainGlobals "row_for" = some (some (.ref f30))) (l30 : K.lookup f30 = some ⟨oc30, od30, .func (PySem.W.fnOf "row_for" "row_for" (defArgs s_row_for) (defBody s_row_for) (defScope s_row_for) .none kV30 dc30 pm30 an30 cd30 ct30), sl30⟩) (c30 : PySem.W.codeIn K cd30 "row_for" = true) (k30 : PySem.W.keepIn K (.ref f30) = true)
    {f31 : Addr} {od31 an31 : Option Addr} {sl31 : Array (Option Value)} {oc31 kV31 dc31 pm31 ct31 : Value} {cd31 : Value}
    (a31 : PySem.W.nsIn K mainGlobals "parted" = some (some (.ref f31))) (l31 : K.lookup f31 = some ⟨oc31, od31, .func (PySem.W.fnOf "parted" "parted" (defArgs s_parted) (defBody s_parted) (defScope s_parted) .none kV31 dc31 pm31 an31 cd31 ct31), sl31⟩) (c31 : PySem.W.codeIn K cd31 "parted" = true) (k31 : PySem.W.keepIn K (.ref f31) = true)
    {f32 : Addr} {od32 an32 : Option Addr} {sl32 : Array (Option Value)} {oc32 kV32 dc32 pm32 ct32 : Value} {cd32 : Value}
    (a32 : PySem.W.nsIn K mainGlobals "alike" = some (some (.ref f32))) (l32 : K.lookup f32 = some ⟨oc32, od32, .func (PySem.W.fnOf "alike" "alike" (defArgs s_alike) (defBody s_alike) (defScope s_alike) .none kV32 dc32 pm32 an32 cd32 ct32), sl32⟩) (c32 : PySem.W.codeIn K cd32 "alike" = true) (k32 : PySem.W.keepIn K (.ref f32) = true)
    {f33 : Addr} {od33 an33 : Option Addr} {sl33 : Array (Option Value)} {oc33 kV33 dc33 pm33 ct33 : Value} {cd33 : Value}
    (a33 : PySem.W.nsIn K mainGlobals "choices" = some (some (.ref f33))) (l33 : K.lookup f33 = some ⟨oc33, od33, .func (PySem.W.fnOf "choices" "choices" (defArgs s_choices) (defBody s_choices) (defScope s_choices) .none kV33 dc33 pm33 an33 cd33 ct33), sl33⟩) (c33 : PySem.W.codeIn K cd33 "choices" = true) (k33 : PySem.W.keepIn K (.ref f33) = true)
    {f34 : Addr} {od34 an34 : Option Addr} {sl34 : Array (Option Value)} {oc34 kV34 dc34 pm34 ct34 : Value} {cd34 : Value}
    (a34 : PySem.W.nsIn K mainGlobals "stands" = some (some (.ref f34))) (l34 : K.lookup f34 = some ⟨oc34, od34, .func (PySem.W.fnOf "stands" "stands" (defArgs s_stands) (defBody s_stands) (defScope s_stands) .none kV34 dc34 pm34 an34 cd34 ct34), sl34⟩) (c34 : PySem.W.codeIn K cd34 "stands" = true) (k34 : PySem.W.keepIn K (.ref f34) = true)
    {f35 : Addr} {od35 an35 : Option Addr} {sl35 : Array (Option Value)} {oc35 kV35 dc35 pm35 ct35 : Value} {cd35 : Value}
    (a35 : PySem.W.nsIn K mainGlobals "doings" = some (some (.ref f35))) (l35 : K.lookup f35 = some ⟨oc35, od35, .func (PySem.W.fnOf "doings" "doings" (defArgs s_doings) (defBody s_doings) (defScope s_doings) .none kV35 dc35 pm35 an35 cd35 ct35), sl35⟩) (c35 : PySem.W.codeIn K cd35 "doings" = true) (k35 : PySem.W.keepIn K (.ref f35) = true)
    {f36 : Addr} {od36 an36 : Option Addr} {sl36 : Array (Option Value)} {oc36 kV36 dc36 pm36 ct36 : Value} {cd36 : Value}
    (a36 : PySem.W.nsIn K mainGlobals "sources" = some (some (.ref f36))) (l36 : K.lookup f36 = some ⟨oc36, od36, .func (PySem.W.fnOf "sources" "sources" (defArgs s_sources) (defBody s_sources) (defScope s_sources) .none kV36 dc36 pm36 an36 cd36 ct36), sl36⟩) (c36 : PySem.W.codeIn K cd36 "sources" = true) (k36 : PySem.W.keepIn K (.ref f36) = true)
    {f37 : Addr} {od37 an37 : Option Addr} {sl37 : Array (Option Value)} {oc37 kV37 dc37 pm37 ct37 : Value} {cd37 : Value}
    (a37 : PySem.W.nsIn K mainGlobals "with_next_block" = some (some (.ref f37))) (l37 : K.lookup f37 = some ⟨oc37, od37, .func (PySem.W.fnOf "with_next_block" "with_next_block" (defArgs s_with_next_block) (defBody s_with_next_block) (defScope s_with_next_block) .none kV37 dc37 pm37 an37 cd37 ct37), sl37⟩) (c37 : PySem.W.codeIn K cd37 "with_next_block" = true) (k37 : PySem.W.keepIn K (.ref f37) = true)
    {f38 : Addr} {od38 an38 : Option Addr} {sl38 : Array (Option Value)} {oc38 kV38 dc38 pm38 ct38 : Value} {cd38 : Value}
    (a38 : PySem.W.nsIn K mainGlobals "leading" = some (some (.ref f38))) (l38 : K.lookup f38 = some ⟨oc38, od38, .func (PySem.W.fnOf "leading" "leading" (defArgs s_leading) (defBody s_leading) (defScope s_leading) .none kV38 dc38 pm38 an38 cd38 ct38), sl38⟩) (c38 : PySem.W.codeIn K cd38 "leading" = true) (k38 : PySem.W.keepIn K (.ref f38) = true)
    {f39 : Addr} {od39 an39 : Option Addr} {sl39 : Array (Option Value)} {oc39 kV39 dc39 pm39 ct39 : Value} {cd39 : Value}
    (a39 : PySem.W.findIn K (.ref C_Band) "__init__" = some (some (.ref f39))) (i39 : PySem.W.isFn K (.ref f39) = true) (l39 : K.lookup f39 = some ⟨oc39, od39, .func (PySem.W.fnOf "__init__" "Band.__init__" (defArgs s_Band_init) (defBody s_Band_init) (defScope s_Band_init) .none kV39 dc39 pm39 an39 cd39 ct39), sl39⟩) (c39 : PySem.W.codeIn K cd39 "Band.__init__" = true) (k39 : PySem.W.keepIn K (.ref f39) = true)
    {f40 : Addr} {od40 an40 : Option Addr} {sl40 : Array (Option Value)} {oc40 kV40 dc40 pm40 ct40 : Value} {cd40 : Value}
    (a40 : PySem.W.nsIn K mainGlobals "band_from" = some (some (.ref f40))) (l40 : K.lookup f40 = some ⟨oc40, od40, .func (PySem.W.fnOf "band_from" "band_from" (defArgs s_band_from) (defBody s_band_from) (defScope s_band_from) .none kV40 dc40 pm40 an40 cd40 ct40), sl40⟩) (c40 : PySem.W.codeIn K cd40 "band_from" = true) (k40 : PySem.W.keepIn K (.ref f40) = true)
    {f41 : Addr} {od41 an41 : Option Addr} {sl41 : Array (Option Value)} {oc41 kV41 dc41 pm41 ct41 : Value} {cd41 : Value}
    (a41 : PySem.W.nsIn K mainGlobals "bands_of" = some (some (.ref f41))) (l41 : K.lookup f41 = some ⟨oc41, od41, .func (PySem.W.fnOf "bands_of" "bands_of" (defArgs s_bands_of) (defBody s_bands_of) (defScope s_bands_of) .none kV41 dc41 pm41 an41 cd41 ct41), sl41⟩) (c41 : PySem.W.codeIn K cd41 "bands_of" = true) (k41 : PySem.W.keepIn K (.ref f41) = true)
    {f42 : Addr} {od42 an42 : Option Addr} {sl42 : Array (Option Value)} {oc42 kV42 dc42 pm42 ct42 : Value} {cd42 : Value}
    (a42 : PySem.W.nsIn K mainGlobals "raised" = some (some (.ref f42))) (l42 : K.lookup f42 = some ⟨oc42, od42, .func (PySem.W.fnOf "raised" "raised" (defArgs s_raised) (defBody s_raised) (defScope s_raised) .none kV42 dc42 pm42 an42 cd42 ct42), sl42⟩) (c42 : PySem.W.codeIn K cd42 "raised" = true) (k42 : PySem.W.keepIn K (.ref f42) = true)
    {f43 : Addr} {od43 an43 : Option Addr} {sl43 : Array (Option Value)} {oc43 kV43 dc43 pm43 ct43 : Value} {cd43 : Value}
    (a43 : PySem.W.nsIn K mainGlobals "lowered" = some (some (.ref f43))) (l43 : K.lookup f43 = some ⟨oc43, od43, .func (PySem.W.fnOf "lowered" "lowered" (defArgs s_lowered) (defBody s_lowered) (defScope s_lowered) .none kV43 dc43 pm43 an43 cd43 ct43), sl43⟩) (c43 : PySem.W.codeIn K cd43 "lowered" = true) (k43 : PySem.W.keepIn K (.ref f43) = true)
    {f44 : Addr} {od44 an44 : Option Addr} {sl44 : Array (Option Value)} {oc44 kV44 dc44 pm44 ct44 : Value} {cd44 : Value}
    (a44 : PySem.W.nsIn K mainGlobals "row_alone" = some (some (.ref f44))) (l44 : K.lookup f44 = some ⟨oc44, od44, .func (PySem.W.fnOf "row_alone" "row_alone" (defArgs s_row_alone) (defBody s_row_alone) (defScope s_row_alone) .none kV44 dc44 pm44 an44 cd44 ct44), sl44⟩) (c44 : PySem.W.codeIn K cd44 "row_alone" = true) (k44 : PySem.W.keepIn K (.ref f44) = true)
    {f45 : Addr} {od45 an45 : Option Addr} {sl45 : Array (Option Value)} {oc45 kV45 dc45 pm45 ct45 : Value} {cd45 : Value}
    (a45 : PySem.W.nsIn K mainGlobals "row_served_by_last" = some (some (.ref f45))) (l45 : K.lookup f45 = some ⟨oc45, od45, .func (PySem.W.fnOf "row_served_by_last" "row_served_by_last" (defArgs s_row_served_by_last) (defBody s_row_served_by_last) (defScope s_row_served_by_last) .none kV45 dc45 pm45 an45 cd45 ct45), sl45⟩) (c45 : PySem.W.codeIn K cd45 "row_served_by_last" = true) (k45 : PySem.W.keepIn K (.ref f45) = true)
    {f46 : Addr} {od46 an46 : Option Addr} {sl46 : Array (Option Value)} {oc46 kV46 dc46 pm46 ct46 : Value} {cd46 : Value}
    (a46 : PySem.W.nsIn K mainGlobals "row_served_by_first" = some (some (.ref f46))) (l46 : K.lookup f46 = some ⟨oc46, od46, .func (PySem.W.fnOf "row_served_by_first" "row_served_by_first" (defArgs s_row_served_by_first) (defBody s_row_served_by_first) (defScope s_row_served_by_first) .none kV46 dc46 pm46 an46 cd46 ct46), sl46⟩) (c46 : PySem.W.codeIn K cd46 "row_served_by_first" = true) (k46 : PySem.W.keepIn K (.ref f46) = true)
    {f47 : Addr} {od47 an47 : Option Addr} {sl47 : Array (Option Value)} {oc47 kV47 dc47 pm47 ct47 : Value} {cd47 : Value}
    (a47 : PySem.W.nsIn K mainGlobals "row_together" = some (some (.ref f47))) (l47 : K.lookup f47 = some ⟨oc47, od47, .func (PySem.W.fnOf "row_together" "row_together" (defArgs s_row_together) (defBody s_row_together) (defScope s_row_together) .none kV47 dc47 pm47 an47 cd47 ct47), sl47⟩) (c47 : PySem.W.codeIn K cd47 "row_together" = true) (k47 : PySem.W.keepIn K (.ref f47) = true)
    {f48 : Addr} {od48 an48 : Option Addr} {sl48 : Array (Option Value)} {oc48 kV48 dc48 pm48 ct48 : Value} {cd48 : Value}
    (a48 : PySem.W.nsIn K mainGlobals "shortest_row" = some (some (.ref f48))) (l48 : K.lookup f48 = some ⟨oc48, od48, .func (PySem.W.fnOf "shortest_row" "shortest_row" (defArgs s_shortest_row) (defBody s_shortest_row) (defScope s_shortest_row) .none kV48 dc48 pm48 an48 cd48 ct48), sl48⟩) (c48 : PySem.W.codeIn K cd48 "shortest_row" = true) (k48 : PySem.W.keepIn K (.ref f48) = true)
    {f49 : Addr} {od49 an49 : Option Addr} {sl49 : Array (Option Value)} {oc49 kV49 dc49 pm49 ct49 : Value} {cd49 : Value}
    (a49 : PySem.W.nsIn K mainGlobals "need_both" = some (some (.ref f49))) (l49 : K.lookup f49 = some ⟨oc49, od49, .func (PySem.W.fnOf "need_both" "need_both" (defArgs s_need_both) (defBody s_need_both) (defScope s_need_both) .none kV49 dc49 pm49 an49 cd49 ct49), sl49⟩) (c49 : PySem.W.codeIn K cd49 "need_both" = true) (k49 : PySem.W.keepIn K (.ref f49) = true)
    {f50 : Addr} {od50 an50 : Option Addr} {sl50 : Array (Option Value)} {oc50 kV50 dc50 pm50 ct50 : Value} {cd50 : Value}
    (a50 : PySem.W.nsIn K mainGlobals "fewest" = some (some (.ref f50))) (l50 : K.lookup f50 = some ⟨oc50, od50, .func (PySem.W.fnOf "fewest" "fewest" (defArgs s_fewest) (defBody s_fewest) (defScope s_fewest) .none kV50 dc50 pm50 an50 cd50 ct50), sl50⟩) (c50 : PySem.W.codeIn K cd50 "fewest" = true) (k50 : PySem.W.keepIn K (.ref f50) = true)
    {f51 : Addr} {od51 an51 : Option Addr} {sl51 : Array (Option Value)} {oc51 kV51 dc51 pm51 ct51 : Value} {cd51 : Value}
    (a51 : PySem.W.nsIn K mainGlobals "pushes_to" = some (some (.ref f51))) (l51 : K.lookup f51 = some ⟨oc51, od51, .func (PySem.W.fnOf "pushes_to" "pushes_to" (defArgs s_pushes_to) (defBody s_pushes_to) (defScope s_pushes_to) .none kV51 dc51 pm51 an51 cd51 ct51), sl51⟩) (c51 : PySem.W.codeIn K cd51 "pushes_to" = true) (k51 : PySem.W.keepIn K (.ref f51) = true)
    {f52 : Addr} {od52 an52 : Option Addr} {sl52 : Array (Option Value)} {oc52 kV52 dc52 pm52 ct52 : Value} {cd52 : Value}
    (a52 : PySem.W.nsIn K mainGlobals "leads" = some (some (.ref f52))) (l52 : K.lookup f52 = some ⟨oc52, od52, .func (PySem.W.fnOf "leads" "leads" (defArgs s_leads) (defBody s_leads) (defScope s_leads) .none kV52 dc52 pm52 an52 cd52 ct52), sl52⟩) (c52 : PySem.W.codeIn K cd52 "leads" = true) (k52 : PySem.W.keepIn K (.ref f52) = true)
    {f53 : Addr} {od53 an53 : Option Addr} {sl53 : Array (Option Value)} {oc53 kV53 dc53 pm53 ct53 : Value} {cd53 : Value}
    (a53 : PySem.W.nsIn K mainGlobals "copied" = some (some (.ref f53))) (l53 : K.lookup f53 = some ⟨oc53, od53, .func (PySem.W.fnOf "copied" "copied" (defArgs s_copied) (defBody s_copied) (defScope s_copied) .none kV53 dc53 pm53 an53 cd53 ct53), sl53⟩) (c53 : PySem.W.codeIn K cd53 "copied" = true) (k53 : PySem.W.keepIn K (.ref f53) = true)
    {f54 : Addr} {od54 an54 : Option Addr} {sl54 : Array (Option Value)} {oc54 kV54 dc54 pm54 ct54 : Value} {cd54 : Value}
    (a54 : PySem.W.findIn K (.ref C_Bench) "__init__" = some (some (.ref f54))) (i54 : PySem.W.isFn K (.ref f54) = true) (l54 : K.lookup f54 = some ⟨oc54, od54, .func (PySem.W.fnOf "__init__" "Bench.__init__" (defArgs s_Bench_init) (defBody s_Bench_init) (defScope s_Bench_init) .none kV54 dc54 pm54 an54 cd54 ct54), sl54⟩) (c54 : PySem.W.codeIn K cd54 "Bench.__init__" = true) (k54 : PySem.W.keepIn K (.ref f54) = true)
    {f55 : Addr} {od55 an55 : Option Addr} {sl55 : Array (Option Value)} {oc55 kV55 dc55 pm55 ct55 : Value} {cd55 : Value}
    (a55 : PySem.W.findIn K (.ref C_Bench) "push" = some (some (.ref f55))) (i55 : PySem.W.isFn K (.ref f55) = true) (l55 : K.lookup f55 = some ⟨oc55, od55, .func (PySem.W.fnOf "push" "Bench.push" (defArgs s_Bench_push) (defBody s_Bench_push) (defScope s_Bench_push) .none kV55 dc55 pm55 an55 cd55 ct55), sl55⟩) (c55 : PySem.W.codeIn K cd55 "Bench.push" = true) (k55 : PySem.W.keepIn K (.ref f55) = true)
    {f56 : Addr} {od56 an56 : Option Addr} {sl56 : Array (Option Value)} {oc56 kV56 dc56 pm56 ct56 : Value} {cd56 : Value}
    (a56 : PySem.W.findIn K (.ref C_Bench) "set_wish" = some (some (.ref f56))) (i56 : PySem.W.isFn K (.ref f56) = true) (l56 : K.lookup f56 = some ⟨oc56, od56, .func (PySem.W.fnOf "set_wish" "Bench.set_wish" (defArgs s_Bench_set_wish) (defBody s_Bench_set_wish) (defScope s_Bench_set_wish) .none kV56 dc56 pm56 an56 cd56 ct56), sl56⟩) (c56 : PySem.W.codeIn K cd56 "Bench.set_wish" = true) (k56 : PySem.W.keepIn K (.ref f56) = true)
    {f57 : Addr} {od57 an57 : Option Addr} {sl57 : Array (Option Value)} {oc57 kV57 dc57 pm57 ct57 : Value} {cd57 : Value}
    (a57 : PySem.W.findIn K (.ref C_Bench) "stand" = some (some (.ref f57))) (i57 : PySem.W.isFn K (.ref f57) = true) (l57 : K.lookup f57 = some ⟨oc57, od57, .func (PySem.W.fnOf "stand" "Bench.stand" (defArgs s_Bench_stand) (defBody s_Bench_stand) (defScope s_Bench_stand) .none kV57 dc57 pm57 an57 cd57 ct57), sl57⟩) (c57 : PySem.W.codeIn K cd57 "Bench.stand" = true) (k57 : PySem.W.keepIn K (.ref f57) = true)
    {f58 : Addr} {od58 an58 : Option Addr} {sl58 : Array (Option Value)} {oc58 kV58 dc58 pm58 ct58 : Value} {cd58 : Value}
    (a58 : PySem.W.findIn K (.ref C_Bench) "doing" = some (some (.ref f58))) (i58 : PySem.W.isFn K (.ref f58) = true) (l58 : K.lookup f58 = some ⟨oc58, od58, .func (PySem.W.fnOf "doing" "Bench.doing" (defArgs s_Bench_doing) (defBody s_Bench_doing) (defScope s_Bench_doing) .none kV58 dc58 pm58 an58 cd58 ct58), sl58⟩) (c58 : PySem.W.codeIn K cd58 "Bench.doing" = true) (k58 : PySem.W.keepIn K (.ref f58) = true)
    {f59 : Addr} {od59 an59 : Option Addr} {sl59 : Array (Option Value)} {oc59 kV59 dc59 pm59 ct59 : Value} {cd59 : Value}
    (a59 : PySem.W.findIn K (.ref C_Bench) "pushes" = some (some (.ref f59))) (i59 : PySem.W.isFn K (.ref f59) = true) (l59 : K.lookup f59 = some ⟨oc59, od59, .func (PySem.W.fnOf "pushes" "Bench.pushes" (defArgs s_Bench_pushes) (defBody s_Bench_pushes) (defScope s_Bench_pushes) .none kV59 dc59 pm59 an59 cd59 ct59), sl59⟩) (c59 : PySem.W.codeIn K cd59 "Bench.pushes" = true) (k59 : PySem.W.keepIn K (.ref f59) = true)
    {f60 : Addr} {od60 an60 : Option Addr} {sl60 : Array (Option Value)} {oc60 kV60 dc60 pm60 ct60 : Value} {cd60 : Value}
    (a60 : PySem.W.findIn K (.ref C_Bench) "fewest" = some (some (.ref f60))) (i60 : PySem.W.isFn K (.ref f60) = true) (l60 : K.lookup f60 = some ⟨oc60, od60, .func (PySem.W.fnOf "fewest" "Bench.fewest" (defArgs s_Bench_fewest) (defBody s_Bench_fewest) (defScope s_Bench_fewest) .none kV60 dc60 pm60 an60 cd60 ct60), sl60⟩) (c60 : PySem.W.codeIn K cd60 "Bench.fewest" = true) (k60 : PySem.W.keepIn K (.ref f60) = true)
    {f61 : Addr} {od61 an61 : Option Addr} {sl61 : Array (Option Value)} {oc61 kV61 dc61 pm61 ct61 : Value} {cd61 : Value}
    (a61 : PySem.W.findIn K (.ref C_Bench) "__len__" = some (some (.ref f61))) (i61 : PySem.W.isFn K (.ref f61) = true) (l61 : K.lookup f61 = some ⟨oc61, od61, .func (PySem.W.fnOf "__len__" "Bench.__len__" (defArgs s_Bench_len) (defBody s_Bench_len) (defScope s_Bench_len) .none kV61 dc61 pm61 an61 cd61 ct61), sl61⟩) (c61 : PySem.W.codeIn K cd61 "Bench.__len__" = true) (k61 : PySem.W.keepIn K (.ref f61) = true)
    {f62 : Addr} {od62 an62 : Option Addr} {sl62 : Array (Option Value)} {oc62 kV62 dc62 pm62 ct62 : Value} {cd62 : Value}
    (a62 : PySem.W.findIn K (.ref C_Bench) "__eq__" = some (some (.ref f62))) (i62 : PySem.W.isFn K (.ref f62) = true) (l62 : K.lookup f62 = some ⟨oc62, od62, .func (PySem.W.fnOf "__eq__" "Bench.__eq__" (defArgs s_Bench_eq) (defBody s_Bench_eq) (defScope s_Bench_eq) .none kV62 dc62 pm62 an62 cd62 ct62), sl62⟩) (c62 : PySem.W.codeIn K cd62 "Bench.__eq__" = true) (k62 : PySem.W.keepIn K (.ref f62) = true)
    {f63 : Addr} {od63 an63 : Option Addr} {sl63 : Array (Option Value)} {oc63 kV63 dc63 pm63 ct63 : Value} {cd63 : Value}
    (a63 : PySem.W.nsIn K mainGlobals "_law_deck" = some (some (.ref f63))) (l63 : K.lookup f63 = some ⟨oc63, od63, .func (PySem.W.fnOf "_law_deck" "_law_deck" (defArgs s_law_deck) (defBody s_law_deck) (defScope s_law_deck) .none kV63 dc63 pm63 an63 cd63 ct63), sl63⟩) (c63 : PySem.W.codeIn K cd63 "_law_deck" = true) (k63 : PySem.W.keepIn K (.ref f63) = true)
    {f64 : Addr} {od64 an64 : Option Addr} {sl64 : Array (Option Value)} {oc64 kV64 dc64 pm64 ct64 : Value} {cd64 : Value}
    (a64 : PySem.W.nsIn K mainGlobals "_law_pick" = some (some (.ref f64))) (l64 : K.lookup f64 = some ⟨oc64, od64, .func (PySem.W.fnOf "_law_pick" "_law_pick" (defArgs s_law_pick) (defBody s_law_pick) (defScope s_law_pick) .none kV64 dc64 pm64 an64 cd64 ct64), sl64⟩) (c64 : PySem.W.codeIn K cd64 "_law_pick" = true) (k64 : PySem.W.keepIn K (.ref f64) = true)
    {f65 : Addr} {od65 an65 : Option Addr} {sl65 : Array (Option Value)} {oc65 kV65 dc65 pm65 ct65 : Value} {cd65 : Value}
    (a65 : PySem.W.nsIn K mainGlobals "_law_one" = some (some (.ref f65))) (l65 : K.lookup f65 = some ⟨oc65, od65, .func (PySem.W.fnOf "_law_one" "_law_one" (defArgs s_law_one) (defBody s_law_one) (defScope s_law_one) .none kV65 dc65 pm65 an65 cd65 ct65), sl65⟩) (c65 : PySem.W.codeIn K cd65 "_law_one" = true) (k65 : PySem.W.keepIn K (.ref f65) = true)
    {f66 : Addr} {od66 an66 : Option Addr} {sl66 : Array (Option Value)} {oc66 kV66 dc66 pm66 ct66 : Value} {cd66 : Value}
    (a66 : PySem.W.nsIn K mainGlobals "_law_kin" = some (some (.ref f66))) (l66 : K.lookup f66 = some ⟨oc66, od66, .func (PySem.W.fnOf "_law_kin" "_law_kin" (defArgs s_law_kin) (defBody s_law_kin) (defScope s_law_kin) .none kV66 dc66 pm66 an66 cd66 ct66), sl66⟩) (c66 : PySem.W.codeIn K cd66 "_law_kin" = true) (k66 : PySem.W.keepIn K (.ref f66) = true)
    {f67 : Addr} {od67 an67 : Option Addr} {sl67 : Array (Option Value)} {oc67 kV67 dc67 pm67 ct67 : Value} {cd67 : Value}
    (a67 : PySem.W.nsIn K mainGlobals "_law_try" = some (some (.ref f67))) (l67 : K.lookup f67 = some ⟨oc67, od67, .func (PySem.W.fnOf "_law_try" "_law_try" (defArgs s_law_try) (defBody s_law_try) (defScope s_law_try) .none kV67 dc67 pm67 an67 cd67 ct67), sl67⟩) (c67 : PySem.W.codeIn K cd67 "_law_try" = true) (k67 : PySem.W.keepIn K (.ref f67) = true)
    {f68 : Addr} {od68 an68 : Option Addr} {sl68 : Array (Option Value)} {oc68 kV68 dc68 pm68 ct68 : Value} {cd68 : Value}
    (a68 : PySem.W.nsIn K mainGlobals "_law_shelf" = some (some (.ref f68))) (l68 : K.lookup f68 = some ⟨oc68, od68, .func (PySem.W.fnOf "_law_shelf" "_law_shelf" (defArgs s_law_shelf) (defBody s_law_shelf) (defScope s_law_shelf) .none kV68 dc68 pm68 an68 cd68 ct68), sl68⟩) (c68 : PySem.W.codeIn K cd68 "_law_shelf" = true) (k68 : PySem.W.keepIn K (.ref f68) = true)
    {f69 : Addr} {od69 an69 : Option Addr} {sl69 : Array (Option Value)} {oc69 kV69 dc69 pm69 ct69 : Value} {cd69 : Value}
    (a69 : PySem.W.nsIn K mainGlobals "_law_play" = some (some (.ref f69))) (l69 : K.lookup f69 = some ⟨oc69, od69, .func (PySem.W.fnOf "_law_play" "_law_play" (defArgs s_law_play) (defBody s_law_play) (defScope s_law_play) .none kV69 dc69 pm69 an69 cd69 ct69), sl69⟩) (c69 : PySem.W.codeIn K cd69 "_law_play" = true) (k69 : PySem.W.keepIn K (.ref f69) = true)
    {f70 : Addr} {od70 an70 : Option Addr} {sl70 : Array (Option Value)} {oc70 kV70 dc70 pm70 ct70 : Value} {cd70 : Value}
    (a70 : PySem.W.nsIn K mainGlobals "_law_stand_of" = some (some (.ref f70))) (l70 : K.lookup f70 = some ⟨oc70, od70, .func (PySem.W.fnOf "_law_stand_of" "_law_stand_of" (defArgs s_law_stand_of) (defBody s_law_stand_of) (defScope s_law_stand_of) .none kV70 dc70 pm70 an70 cd70 ct70), sl70⟩) (c70 : PySem.W.codeIn K cd70 "_law_stand_of" = true) (k70 : PySem.W.keepIn K (.ref f70) = true)
    {f71 : Addr} {od71 an71 : Option Addr} {sl71 : Array (Option Value)} {oc71 kV71 dc71 pm71 ct71 : Value} {cd71 : Value}
    (a71 : PySem.W.nsIn K mainGlobals "_law_stand" = some (some (.ref f71))) (l71 : K.lookup f71 = some ⟨oc71, od71, .func (PySem.W.fnOf "_law_stand" "_law_stand" (defArgs s_law_stand) (defBody s_law_stand) (defScope s_law_stand) .none kV71 dc71 pm71 an71 cd71 ct71), sl71⟩) (c71 : PySem.W.codeIn K cd71 "_law_stand" = true) (k71 : PySem.W.keepIn K (.ref f71) = true)
    {f72 : Addr} {od72 an72 : Option Addr} {sl72 : Array (Option Value)} {oc72 kV72 dc72 pm72 ct72 : Value} {cd72 : Value}
    (a72 : PySem.W.nsIn K mainGlobals "_law_push" = some (some (.ref f72))) (l72 : K.lookup f72 = some ⟨oc72, od72, .func (PySem.W.fnOf "_law_push" "_law_push" (defArgs s_law_push) (defBody s_law_push) (defScope s_law_push) .none kV72 dc72 pm72 an72 cd72 ct72), sl72⟩) (c72 : PySem.W.codeIn K cd72 "_law_push" = true) (k72 : PySem.W.keepIn K (.ref f72) = true)
    {f73 : Addr} {od73 an73 : Option Addr} {sl73 : Array (Option Value)} {oc73 kV73 dc73 pm73 ct73 : Value} {cd73 : Addr}
    (a73 : PySem.W.nsIn K mainGlobals "_law_by_stand" = some (some (.ref f73))) (l73 : K.lookup f73 = some ⟨oc73, od73, .func (PySem.W.fnOf "_law_by_stand" "_law_by_stand" (defArgs s_law_by_stand) (defBody s_law_by_stand) (defScope s_law_by_stand) .none kV73 dc73 pm73 an73 (.ref cd73) ct73), sl73⟩) (c73 : PySem.W.codeIn K (.ref cd73) "_law_by_stand" = true) (k73 : PySem.W.keepIn K (.ref f73) = true)
    {te73 : Value} {td73 : Option Addr} {tv73 : Array Value} {ts73 : Array (Option Value)} {P73 : Addr} (tl73 : K.lookup cd73 = some ⟨te73, td73, .fields tv73, ts73⟩) (tp73 : tv73[11]? = some (.ref P73)) (tn73 : K.lookup P73 = none)
    {f74 : Addr} {od74 an74 : Option Addr} {sl74 : Array (Option Value)} {oc74 kV74 dc74 pm74 ct74 : Value} {cd74 : Addr}
    (a74 : PySem.W.nsIn K mainGlobals "_law_by_row" = some (some (.ref f74))) (l74 : K.lookup f74 = some ⟨oc74, od74, .func (PySem.W.fnOf "_law_by_row" "_law_by_row" (defArgs s_law_by_row) (defBody s_law_by_row) (defScope s_law_by_row) .none kV74 dc74 pm74 an74 (.ref cd74) ct74), sl74⟩) (c74 : PySem.W.codeIn K (.ref cd74) "_law_by_row" = true) (k74 : PySem.W.keepIn K (.ref f74) = true)
    {te74 : Value} {td74 : Option Addr} {tv74 : Array Value} {ts74 : Array (Option Value)} {P74 : Addr} (tl74 : K.lookup cd74 = some ⟨te74, td74, .fields tv74, ts74⟩) (tp74 : tv74[11]? = some (.ref P74)) (tn74 : K.lookup P74 = none)
    {f75 : Addr} {od75 an75 : Option Addr} {sl75 : Array (Option Value)} {oc75 kV75 dc75 pm75 ct75 : Value} {cd75 : Addr}
    (a75 : PySem.W.nsIn K mainGlobals "_law_by_doing" = some (some (.ref f75))) (l75 : K.lookup f75 = some ⟨oc75, od75, .func (PySem.W.fnOf "_law_by_doing" "_law_by_doing" (defArgs s_law_by_doing) (defBody s_law_by_doing) (defScope s_law_by_doing) .none kV75 dc75 pm75 an75 (.ref cd75) ct75), sl75⟩) (c75 : PySem.W.codeIn K (.ref cd75) "_law_by_doing" = true) (k75 : PySem.W.keepIn K (.ref f75) = true)
    {te75 : Value} {td75 : Option Addr} {tv75 : Array Value} {ts75 : Array (Option Value)} {P75 : Addr} (tl75 : K.lookup cd75 = some ⟨te75, td75, .fields tv75, ts75⟩) (tp75 : tv75[11]? = some (.ref P75)) (tn75 : K.lookup P75 = none)
    {f76 : Addr} {od76 an76 : Option Addr} {sl76 : Array (Option Value)} {oc76 kV76 dc76 pm76 ct76 : Value} {cd76 : Addr}
    (a76 : PySem.W.nsIn K mainGlobals "_law_by_shelf" = some (some (.ref f76))) (l76 : K.lookup f76 = some ⟨oc76, od76, .func (PySem.W.fnOf "_law_by_shelf" "_law_by_shelf" (defArgs s_law_by_shelf) (defBody s_law_by_shelf) (defScope s_law_by_shelf) .none kV76 dc76 pm76 an76 (.ref cd76) ct76), sl76⟩) (c76 : PySem.W.codeIn K (.ref cd76) "_law_by_shelf" = true) (k76 : PySem.W.keepIn K (.ref f76) = true)
    {te76 : Value} {td76 : Option Addr} {tv76 : Array Value} {ts76 : Array (Option Value)} {P76 : Addr} (tl76 : K.lookup cd76 = some ⟨te76, td76, .fields tv76, ts76⟩) (tp76 : tv76[11]? = some (.ref P76)) (tn76 : K.lookup P76 = none)
    {f77 : Addr} {od77 an77 : Option Addr} {sl77 : Array (Option Value)} {oc77 kV77 dc77 pm77 ct77 : Value} {cd77 : Value}
    (a77 : PySem.W.nsIn K mainGlobals "_law_all_told" = some (some (.ref f77))) (l77 : K.lookup f77 = some ⟨oc77, od77, .func (PySem.W.fnOf "_law_all_told" "_law_all_told" (defArgs s_law_all_told) (defBody s_law_all_told) (defScope s_law_all_told) .none kV77 dc77 pm77 an77 cd77 ct77), sl77⟩) (c77 : PySem.W.codeIn K cd77 "_law_all_told" = true) (k77 : PySem.W.keepIn K (.ref f77) = true)
    {f78 : Addr} {od78 an78 : Option Addr} {sl78 : Array (Option Value)} {oc78 kV78 dc78 pm78 ct78 : Value} {cd78 : Addr}
    (a78 : PySem.W.nsIn K mainGlobals "law" = some (some (.ref f78))) (l78 : K.lookup f78 = some ⟨oc78, od78, .func (PySem.W.fnOf "law" "law" (defArgs s_law) (defBody s_law) (defScope s_law) .none kV78 dc78 pm78 an78 (.ref cd78) ct78), sl78⟩) (c78 : PySem.W.codeIn K (.ref cd78) "law" = true) (k78 : PySem.W.keepIn K (.ref f78) = true)
    {te78 : Value} {td78 : Option Addr} {tv78 : Array Value} {ts78 : Array (Option Value)} {P78 : Addr} (tl78 : K.lookup cd78 = some ⟨te78, td78, .fields tv78, ts78⟩) (tp78 : tv78[11]? = some (.ref P78)) (tn78 : K.lookup P78 = none)
    (pnd : [P73, P74, P75, P76, P78].Nodup)
    (aC_Band : PySem.W.nsIn K mainGlobals "Band" = some (some (.ref C_Band))) (pg_Band : PySem.W.plainGet K C_Band Str.empty = true) (hd_Band : PySem.W.hasDictIn K C_Band = true) (po_Band : PySem.W.plainOver K C_Band = true) (sa_Band : PySem.W.findIn K (.ref C_Band) "__setattr__" = some (some (.builtin "object.__setattr__"))) (mk_Band : PySem.W.makesIn K C_Band = true) (kc_Band : PySem.W.keepIn K (.ref C_Band) = true)
    (na_Band_first : PySem.W.findIn K (.ref C_Band) "first" = some none)
    (na_Band_beyond : PySem.W.findIn K (.ref C_Band) "beyond" = some none)
    (na_Band_place : PySem.W.findIn K (.ref C_Band) "place" = some none)
    (na_Band_up : PySem.W.findIn K (.ref C_Band) "up" = some none)
    (na_Band_down : PySem.W.findIn K (.ref C_Band) "down" = some none)
    (aC_Bench : PySem.W.nsIn K mainGlobals "Bench" = some (some (.ref C_Bench))) (pg_Bench : PySem.W.plainGet K C_Bench Str.empty = true) (hd_Bench : PySem.W.hasDictIn K C_Bench = true) (po_Bench : PySem.W.plainOver K C_Bench = true) (sa_Bench : PySem.W.findIn K (.ref C_Bench) "__setattr__" = some (some (.builtin "object.__setattr__"))) (mk_Bench : PySem.W.makesIn K C_Bench = true) (kc_Bench : PySem.W.keepIn K (.ref C_Bench) = true)
    (na_Bench_shelf : PySem.W.findIn K (.ref C_Bench) "shelf" = some none)
    (na_Bench_now : PySem.W.findIn K (.ref C_Bench) "now" = some none)
    (na_Bench_least : PySem.W.findIn K (.ref C_Bench) "least" = some none)
    (na_Bench_greatest : PySem.W.findIn K (.ref C_Bench) "greatest" = some none)
    (na_Bench_many : PySem.W.findIn K (.ref C_Bench) "many" = some none)
    (na_Bench_wish : PySem.W.findIn K (.ref C_Bench) "wish" = some none)
    (z_ValueError : PySem.W.nsIn K mainGlobals "ValueError" = some none)
    (z_all : PySem.W.nsIn K mainGlobals "all" = some none)
    (z_bool : PySem.W.nsIn K mainGlobals "bool" = some none)
    (z_enumerate : PySem.W.nsIn K mainGlobals "enumerate" = some none)
    (z_int : PySem.W.nsIn K mainGlobals "int" = some none)
    (z_isinstance : PySem.W.nsIn K mainGlobals "isinstance" = some none)
    (z_len : PySem.W.nsIn K mainGlobals "len" = some none)
    (z_list : PySem.W.nsIn K mainGlobals "list" = some none)
    (z_max : PySem.W.nsIn K mainGlobals "max" = some none)
    (z_min : PySem.W.nsIn K mainGlobals "min" = some none)
    (z_range : PySem.W.nsIn K mainGlobals "range" = some none)
    (z_reversed : PySem.W.nsIn K mainGlobals "reversed" = some none)
    (z_sorted : PySem.W.nsIn K mainGlobals "sorted" = some none)
    (z_sum : PySem.W.nsIn K mainGlobals "sum" = some none)
    (z_tuple : PySem.W.nsIn K mainGlobals "tuple" = some none)
    (z_zip : PySem.W.nsIn K mainGlobals "zip" = some none)
    {t_MOST_BLOCKS : Tok} (v_MOST_BLOCKS : PySem.W.nsIn K mainGlobals "MOST_BLOCKS" = some (some (.int 8 t_MOST_BLOCKS)))
    {t_MOST_LENGTH : Tok} (v_MOST_LENGTH : PySem.W.nsIn K mainGlobals "MOST_LENGTH" = some (some (.int 50 t_MOST_LENGTH)))
    {t_MOST_PLAY : Tok} (v_MOST_PLAY : PySem.W.nsIn K mainGlobals "MOST_PLAY" = some (some (.int 400 t_MOST_PLAY)))
    {t_MOST_PUSHES : Tok} (v_MOST_PUSHES : PySem.W.nsIn K mainGlobals "MOST_PUSHES" = some (some (.int 200 t_MOST_PUSHES)))
    (ocn : PySem.W.specialIn K (.builtin "object.__class__") "__get__" = some (some (.builtin "getset_descriptor.__get__"))) (oct : PySem.W.takesIn K (.builtin "object.__class__") = some true)
    (xx_NoShelf : PySem.W.excIn K C_NoShelf exB "ValueError.__new__" = true)
    (xk_NoShelf : PySem.W.keepIn K (.ref C_NoShelf) = true)
    (xb_NoShelf : PySem.W.subIn K (.ref C_NoShelf) (.type "BaseException") = some true)
    (xt_NoShelf : PySem.W.typeIn K (.ref C_NoShelf) = some (.type "type"))
    (xe_NoShelf : PySem.W.exmOne K (.ref C_NoShelf) (.ref C_ShelfError) = some true)
    (xg_NoShelf : PySem.W.findIn K (.ref C_NoShelf) "__getattribute__" = some (some (.builtin "BaseException.__getattribute__")))
    (xh_NoShelf : PySem.W.findIn K (.ref C_NoShelf) "__getattr__" = some none)
    (xd_NoShelf : PySem.W.hasDictIn K C_NoShelf = true)
    (xc_NoShelf : PySem.W.findIn K (.ref C_NoShelf) "__class__" = some (some (.builtin "object.__class__")))
    (xm_NoShelf : PySem.W.mroIn K C_NoShelf (.type "object") = some true)
    (xi1_NoShelf : PySem.W.kitOne K (.ref C_NoShelf) (.ref C_NoShelf) = some true)
    (xi2_NoShelf : PySem.W.kitOne K (.ref C_NoShelf) (.ref C_NoStand) = some false)
    (xi3_NoShelf : PySem.W.kitOne K (.ref C_NoShelf) (.ref C_NoRow) = some false)
    (xi4_NoShelf : PySem.W.kitOne K (.ref C_NoShelf) (.ref C_NoDoing) = some false)
    (xi5_NoShelf : PySem.W.kitOne K (.ref C_NoShelf) (.ref C_NoPush) = some false)
    (xi6_NoShelf : PySem.W.kitOne K (.ref C_NoShelf) (.ref C_NoWish) = some false)
    (xi7_NoShelf : PySem.W.kitOne K (.ref C_NoShelf) (.type "ValueError") = some true)
    (xx_NoStand : PySem.W.excIn K C_NoStand exB "ValueError.__new__" = true)
    (xk_NoStand : PySem.W.keepIn K (.ref C_NoStand) = true)
    (xb_NoStand : PySem.W.subIn K (.ref C_NoStand) (.type "BaseException") = some true)
    (xt_NoStand : PySem.W.typeIn K (.ref C_NoStand) = some (.type "type"))
    (xe_NoStand : PySem.W.exmOne K (.ref C_NoStand) (.ref C_ShelfError) = some true)
    (xg_NoStand : PySem.W.findIn K (.ref C_NoStand) "__getattribute__" = some (some (.builtin "BaseException.__getattribute__")))
    (xh_NoStand : PySem.W.findIn K (.ref C_NoStand) "__getattr__" = some none)
    (xd_NoStand : PySem.W.hasDictIn K C_NoStand = true)
    (xc_NoStand : PySem.W.findIn K (.ref C_NoStand) "__class__" = some (some (.builtin "object.__class__")))
    (xm_NoStand : PySem.W.mroIn K C_NoStand (.type "object") = some true)
    (xi1_NoStand : PySem.W.kitOne K (.ref C_NoStand) (.ref C_NoShelf) = some false)
    (xi2_NoStand : PySem.W.kitOne K (.ref C_NoStand) (.ref C_NoStand) = some true)
    (xi3_NoStand : PySem.W.kitOne K (.ref C_NoStand) (.ref C_NoRow) = some false)
    (xi4_NoStand : PySem.W.kitOne K (.ref C_NoStand) (.ref C_NoDoing) = some false)
    (xi5_NoStand : PySem.W.kitOne K (.ref C_NoStand) (.ref C_NoPush) = some false)
    (xi6_NoStand : PySem.W.kitOne K (.ref C_NoStand) (.ref C_NoWish) = some false)
    (xi7_NoStand : PySem.W.kitOne K (.ref C_NoStand) (.type "ValueError") = some true)
    (xx_NoRow : PySem.W.excIn K C_NoRow exB "ValueError.__new__" = true)
    (xk_NoRow : PySem.W.keepIn K (.ref C_NoRow) = true)
    (xb_NoRow : PySem.W.subIn K (.ref C_NoRow) (.type "BaseException") = some true)
    (xt_NoRow : PySem.W.typeIn K (.ref C_NoRow) = some (.type "type"))
    (xe_NoRow : PySem.W.exmOne K (.ref C_NoRow) (.ref C_ShelfError) = some true)
    (xg_NoRow : PySem.W.findIn K (.ref C_NoRow) "__getattribute__" = some (some (.builtin "BaseException.__getattribute__")))
    (xh_NoRow : PySem.W.findIn K (.ref C_NoRow) "__getattr__" = some none)
    (xd_NoRow : PySem.W.hasDictIn K C_NoRow = true)
    (xc_NoRow : PySem.W.findIn K (.ref C_NoRow) "__class__" = some (some (.builtin "object.__class__")))
    (xm_NoRow : PySem.W.mroIn K C_NoRow (.type "object") = some true)
    (xi1_NoRow : PySem.W.kitOne K (.ref C_NoRow) (.ref C_NoShelf) = some false)
    (xi2_NoRow : PySem.W.kitOne K (.ref C_NoRow) (.ref C_NoStand) = some false)
    (xi3_NoRow : PySem.W.kitOne K (.ref C_NoRow) (.ref C_NoRow) = some true)
    (xi4_NoRow : PySem.W.kitOne K (.ref C_NoRow) (.ref C_NoDoing) = some false)
    (xi5_NoRow : PySem.W.kitOne K (.ref C_NoRow) (.ref C_NoPush) = some false)
    (xi6_NoRow : PySem.W.kitOne K (.ref C_NoRow) (.ref C_NoWish) = some false)
    (xi7_NoRow : PySem.W.kitOne K (.ref C_NoRow) (.type "ValueError") = some true)
    (xx_NoDoing : PySem.W.excIn K C_NoDoing exB "ValueError.__new__" = true)
    (xk_NoDoing : PySem.W.keepIn K (.ref C_NoDoing) = true)
    (xb_NoDoing : PySem.W.subIn K (.ref C_NoDoing) (.type "BaseException") = some true)
    (xt_NoDoing : PySem.W.typeIn K (.ref C_NoDoing) = some (.type "type"))
    (xe_NoDoing : PySem.W.exmOne K (.ref C_NoDoing) (.ref C_ShelfError) = some true)
    (xg_NoDoing : PySem.W.findIn K (.ref C_NoDoing) "__getattribute__" = some (some (.builtin "BaseException.__getattribute__")))
    (xh_NoDoing : PySem.W.findIn K (.ref C_NoDoing) "__getattr__" = some none)
    (xd_NoDoing : PySem.W.hasDictIn K C_NoDoing = true)
    (xc_NoDoing : PySem.W.findIn K (.ref C_NoDoing) "__class__" = some (some (.builtin "object.__class__")))
    (xm_NoDoing : PySem.W.mroIn K C_NoDoing (.type "object") = some true)
    (xi1_NoDoing : PySem.W.kitOne K (.ref C_NoDoing) (.ref C_NoShelf) = some false)
    (xi2_NoDoing : PySem.W.kitOne K (.ref C_NoDoing) (.ref C_NoStand) = some false)
    (xi3_NoDoing : PySem.W.kitOne K (.ref C_NoDoing) (.ref C_NoRow) = some false)
    (xi4_NoDoing : PySem.W.kitOne K (.ref C_NoDoing) (.ref C_NoDoing) = some true)
    (xi5_NoDoing : PySem.W.kitOne K (.ref C_NoDoing) (.ref C_NoPush) = some false)
    (xi6_NoDoing : PySem.W.kitOne K (.ref C_NoDoing) (.ref C_NoWish) = some false)
    (xi7_NoDoing : PySem.W.kitOne K (.ref C_NoDoing) (.type "ValueError") = some true)
    : LawAtS l w K L2.CX0 18 63 "script" mg fa h := by
  have e := hfa.symm.trans (PySem.W.mg_of X G a78)
  cases e
  let T : Tx K mg := {
    F_wall := fun_mk (st := s_wall) l0 c0 k0
    g_wall := PySem.W.mg_of X G a0
    F_is_whole := fun_mk (st := s_is_whole) l1 c1 k1
    g_is_whole := PySem.W.mg_of X G a1
    F_is_within := fun_mk (st := s_is_within) l2 c2 k2
    g_is_within := PySem.W.mg_of X G a2
    F_is_tuple_of := fun_mk (st := s_is_tuple_of) l3 c3 k3
    g_is_tuple_of := PySem.W.mg_of X G a3
    F_are_blocks := fun_mk (st := s_are_blocks) l4 c4 k4
    g_are_blocks := PySem.W.mg_of X G a4
    F_is_shelf := fun_mk (st := s_is_shelf) l5 c5 k5
    g_is_shelf := PySem.W.mg_of X G a5
    F_need_shelf := fun_mk (st := s_need_shelf) l6 c6 k6
    g_need_shelf := PySem.W.mg_of X G a6
    F_play_of := fun_mk (st := s_play_of) l7 c7 k7
    g_play_of := PySem.W.mg_of X G a7
    F_gap_length := fun_mk (st := s_gap_length) l8 c8 k8
    g_gap_length := PySem.W.mg_of X G a8
    F_places_of := fun_mk (st := s_places_of) l9 c9 k9
    g_places_of := PySem.W.mg_of X G a9
    F_packed := fun_mk (st := s_packed) l10 c10 k10
    g_packed := PySem.W.mg_of X G a10
    F_leftmost := fun_mk (st := s_leftmost) l11 c11 k11
    g_leftmost := PySem.W.mg_of X G a11
    F_rightmost := fun_mk (st := s_rightmost) l12 c12 k12
    g_rightmost := PySem.W.mg_of X G a12
    F_is_stand := fun_mk (st := s_is_stand) l13 c13 k13
    g_is_stand := PySem.W.mg_of X G a13
    F_need_stand := fun_mk (st := s_need_stand) l14 c14 k14
    g_need_stand := PySem.W.mg_of X G a14
    F_is_gap := fun_mk (st := s_is_gap) l15 c15 k15
    g_is_gap := PySem.W.mg_of X G a15
    F_is_push := fun_mk (st := s_is_push) l16 c16 k16
    g_is_push := PySem.W.mg_of X G a16
    F_is_row := fun_mk (st := s_is_row) l17 c17 k17
    g_is_row := PySem.W.mg_of X G a17
    F_need_row := fun_mk (st := s_need_row) l18 c18 k18
    g_need_row := PySem.W.mg_of X G a18
    F_pushed_right := fun_mk (st := s_pushed_right) l19 c19 k19
    g_pushed_right := PySem.W.mg_of X G a19
    F_pushed_left := fun_mk (st := s_pushed_left) l20 c20 k20
    g_pushed_left := PySem.W.mg_of X G a20
    F_pushed := fun_mk (st := s_pushed) l21 c21 k21
    g_pushed := PySem.W.mg_of X G a21
    F_done := fun_mk (st := s_done) l22 c22 k22
    g_done := PySem.W.mg_of X G a22
    F_behind := fun_mk (st := s_behind) l23 c23 k23
    g_behind := PySem.W.mg_of X G a23
    F_doing_of := fun_mk (st := s_doing_of) l24 c24 k24
    g_doing_of := PySem.W.mg_of X G a24
    F_is_doing := fun_mk (st := s_is_doing) l25 c25 k25
    g_is_doing := PySem.W.mg_of X G a25
    F_need_doing := fun_mk (st := s_need_doing) l26 c26 k26
    g_need_doing := PySem.W.mg_of X G a26
    F_held_within := fun_mk (st := s_held_within) l27 c27 k27
    g_held_within := PySem.W.mg_of X G a27
    F_led := fun_mk (st := s_led) l28 c28 k28
    g_led := PySem.W.mg_of X G a28
    F_joined := fun_mk (st := s_joined) l29 c29 k29
    g_joined := PySem.W.mg_of X G a29
    F_row_for := fun_mk (st := s_row_for) l30 c30 k30
    g_row_for := PySem.W.mg_of X G a30
    F_parted := fun_mk (st := s_parted) l31 c31 k31
    g_parted := PySem.W.mg_of X G a31
    F_alike := fun_mk (st := s_alike) l32 c32 k32
    g_alike := PySem.W.mg_of X G a32
    F_choices := fun_mk (st := s_choices) l33 c33 k33
    g_choices := PySem.W.mg_of X G a33
    F_stands := fun_mk (st := s_stands) l34 c34 k34
    g_stands := PySem.W.mg_of X G a34
    F_doings := fun_mk (st := s_doings) l35 c35 k35
    g_doings := PySem.W.mg_of X G a35
    F_sources := fun_mk (st := s_sources) l36 c36 k36
    g_sources := PySem.W.mg_of X G a36
    F_with_next_block := fun_mk (st := s_with_next_block) l37 c37 k37
    g_with_next_block := PySem.W.mg_of X G a37
    F_leading := fun_mk (st := s_leading) l38 c38 k38
    g_leading := PySem.W.mg_of X G a38
    F_Band_init := fun_mk (st := s_Band_init) l39 c39 k39
    F_band_from := fun_mk (st := s_band_from) l40 c40 k40
    g_band_from := PySem.W.mg_of X G a40
    F_bands_of := fun_mk (st := s_bands_of) l41 c41 k41
    g_bands_of := PySem.W.mg_of X G a41
    F_raised := fun_mk (st := s_raised) l42 c42 k42
    g_raised := PySem.W.mg_of X G a42
    F_lowered := fun_mk (st := s_lowered) l43 c43 k43
    g_lowered := PySem.W.mg_of X G a43
    F_row_alone := fun_mk (st := s_row_alone) l44 c44 k44
    g_row_alone := PySem.W.mg_of X G a44
    F_row_served_by_last := fun_mk (st := s_row_served_by_last) l45 c45 k45
    g_row_served_by_last := PySem.W.mg_of X G a45
    F_row_served_by_first := fun_mk (st := s_row_served_by_first) l46 c46 k46
    g_row_served_by_first := PySem.W.mg_of X G a46
    F_row_together := fun_mk (st := s_row_together) l47 c47 k47
    g_row_together := PySem.W.mg_of X G a47
    F_shortest_row := fun_mk (st := s_shortest_row) l48 c48 k48
    g_shortest_row := PySem.W.mg_of X G a48
    F_need_both := fun_mk (st := s_need_both) l49 c49 k49
    g_need_both := PySem.W.mg_of X G a49
    F_fewest := fun_mk (st := s_fewest) l50 c50 k50
    g_fewest := PySem.W.mg_of X G a50
    F_pushes_to := fun_mk (st := s_pushes_to) l51 c51 k51
    g_pushes_to := PySem.W.mg_of X G a51
    F_leads := fun_mk (st := s_leads) l52 c52 k52
    g_leads := PySem.W.mg_of X G a52
    F_copied := fun_mk (st := s_copied) l53 c53 k53
    g_copied := PySem.W.mg_of X G a53
    F_Bench_init := fun_mk (st := s_Bench_init) l54 c54 k54
    F_Bench_push := fun_mk (st := s_Bench_push) l55 c55 k55
    F_Bench_set_wish := fun_mk (st := s_Bench_set_wish) l56 c56 k56
    F_Bench_stand := fun_mk (st := s_Bench_stand) l57 c57 k57
    F_Bench_doing := fun_mk (st := s_Bench_doing) l58 c58 k58
    F_Bench_pushes := fun_mk (st := s_Bench_pushes) l59 c59 k59
    F_Bench_fewest := fun_mk (st := s_Bench_fewest) l60 c60 k60
    F_Bench_len := fun_mk (st := s_Bench_len) l61 c61 k61
    F_Bench_eq := fun_mk (st := s_Bench_eq) l62 c62 k62
    F_law_deck := fun_mk (st := s_law_deck) l63 c63 k63
    g_law_deck := PySem.W.mg_of X G a63
    F_law_pick := fun_mk (st := s_law_pick) l64 c64 k64
    g_law_pick := PySem.W.mg_of X G a64
    F_law_one := fun_mk (st := s_law_one) l65 c65 k65
    g_law_one := PySem.W.mg_of X G a65
    F_law_kin := fun_mk (st := s_law_kin) l66 c66 k66
    g_law_kin := PySem.W.mg_of X G a66
    F_law_try := fun_mk (st := s_law_try) l67 c67 k67
    g_law_try := PySem.W.mg_of X G a67
    F_law_shelf := fun_mk (st := s_law_shelf) l68 c68 k68
    g_law_shelf := PySem.W.mg_of X G a68
    F_law_play := fun_mk (st := s_law_play) l69 c69 k69
    g_law_play := PySem.W.mg_of X G a69
    F_law_stand_of := fun_mk (st := s_law_stand_of) l70 c70 k70
    g_law_stand_of := PySem.W.mg_of X G a70
    F_law_stand := fun_mk (st := s_law_stand) l71 c71 k71
    g_law_stand := PySem.W.mg_of X G a71
    F_law_push := fun_mk (st := s_law_push) l72 c72 k72
    g_law_push := PySem.W.mg_of X G a72
    F_law_by_stand := fun_mk (st := s_law_by_stand) l73 c73 k73
    g_law_by_stand := PySem.W.mg_of X G a73
    F_law_by_row := fun_mk (st := s_law_by_row) l74 c74 k74
    g_law_by_row := PySem.W.mg_of X G a74
    F_law_by_doing := fun_mk (st := s_law_by_doing) l75 c75 k75
    g_law_by_doing := PySem.W.mg_of X G a75
    F_law_by_shelf := fun_mk (st := s_law_by_shelf) l76 c76 k76
    g_law_by_shelf := PySem.W.mg_of X G a76
    F_law_all_told := fun_mk (st := s_law_all_told) l77 c77 k77
    g_law_all_told := PySem.W.mg_of X G a77
    cl_Band := ⟨pg_Band, hd_Band, po_Band, sa_Band⟩
    g_Band := PySem.W.mg_of X G aC_Band
    mk_Band := ⟨mk_Band, a39, i39, kc_Band⟩
    na_Band_first := na_Band_first
    na_Band_beyond := na_Band_beyond
    na_Band_place := na_Band_place
    na_Band_up := na_Band_up
    na_Band_down := na_Band_down
    cl_Bench := ⟨pg_Bench, hd_Bench, po_Bench, sa_Bench⟩
    g_Bench := PySem.W.mg_of X G aC_Bench
    mk_Bench := ⟨mk_Bench, a54, i54, kc_Bench⟩
    me_Bench_push := ⟨a55, i55, k55⟩
    me_Bench_set_wish := ⟨a56, i56, k56⟩
    me_Bench_stand := ⟨a57, i57, k57⟩
    me_Bench_doing := ⟨a58, i58, k58⟩
    me_Bench_pushes := ⟨a59, i59, k59⟩
    me_Bench_fewest := ⟨a60, i60, k60⟩
    me_Bench_len := ⟨a61, i61, k61⟩
    me_Bench_eq := ⟨a62, i62, k62⟩
    na_Bench_shelf := na_Bench_shelf
    na_Bench_now := na_Bench_now
    na_Bench_least := na_Bench_least
    na_Bench_greatest := na_Bench_greatest
    na_Bench_many := na_Bench_many
    na_Bench_wish := na_Bench_wish
    n_ValueError := PySem.W.mg_none_of X G z_ValueError
    n_all := PySem.W.mg_none_of X G z_all
    n_bool := PySem.W.mg_none_of X G z_bool
    n_enumerate := PySem.W.mg_none_of X G z_enumerate
    n_int := PySem.W.mg_none_of X G z_int
    n_isinstance := PySem.W.mg_none_of X G z_isinstance
    n_len := PySem.W.mg_none_of X G z_len
    n_list := PySem.W.mg_none_of X G z_list
    n_max := PySem.W.mg_none_of X G z_max
    n_min := PySem.W.mg_none_of X G z_min
    n_range := PySem.W.mg_none_of X G z_range
    n_reversed := PySem.W.mg_none_of X G z_reversed
    n_sorted := PySem.W.mg_none_of X G z_sorted
    n_sum := PySem.W.mg_none_of X G z_sum
    n_tuple := PySem.W.mg_none_of X G z_tuple
    n_zip := PySem.W.mg_none_of X G z_zip
    c_MOST_BLOCKS := ⟨⟨_, rfl⟩, PySem.W.mg_of X G v_MOST_BLOCKS⟩
    c_MOST_LENGTH := ⟨⟨_, rfl⟩, PySem.W.mg_of X G v_MOST_LENGTH⟩
    c_MOST_PLAY := ⟨⟨_, rfl⟩, PySem.W.mg_of X G v_MOST_PLAY⟩
    c_MOST_PUSHES := ⟨⟨_, rfl⟩, PySem.W.mg_of X G v_MOST_PUSHES⟩ }
  let U : Ux K mg := {
    g_ShelfError := PySem.W.mg_of X G aC_ShelfError
    g_NoShelf := PySem.W.mg_of X G aC_NoShelf
    g_NoStand := PySem.W.mg_of X G aC_NoStand
    g_NoRow := PySem.W.mg_of X G aC_NoRow
    g_NoDoing := PySem.W.mg_of X G aC_NoDoing
    g_NoPush := PySem.W.mg_of X G aC_NoPush
    g_NoWish := PySem.W.mg_of X G aC_NoWish
    c_NoShelf := ⟨xx_NoShelf, xk_NoShelf, xb_NoShelf, xt_NoShelf, xe_NoShelf, ⟨xg_NoShelf, xh_NoShelf, xb_NoShelf, xd_NoShelf, xc_NoShelf, ocn, oct, xm_NoShelf⟩, xi1_NoShelf, xi2_NoShelf, xi3_NoShelf, xi4_NoShelf, xi5_NoShelf, xi6_NoShelf, xi7_NoShelf⟩
    c_NoStand := ⟨xx_NoStand, xk_NoStand, xb_NoStand, xt_NoStand, xe_NoStand, ⟨xg_NoStand, xh_NoStand, xb_NoStand, xd_NoStand, xc_NoStand, ocn, oct, xm_NoStand⟩, xi1_NoStand, xi2_NoStand, xi3_NoStand, xi4_NoStand, xi5_NoStand, xi6_NoStand, xi7_NoStand⟩
    c_NoRow := ⟨xx_NoRow, xk_NoRow, xb_NoRow, xt_NoRow, xe_NoRow, ⟨xg_NoRow, xh_NoRow, xb_NoRow, xd_NoRow, xc_NoRow, ocn, oct, xm_NoRow⟩, xi1_NoRow, xi2_NoRow, xi3_NoRow, xi4_NoRow, xi5_NoRow, xi6_NoRow, xi7_NoRow⟩
    c_NoDoing := ⟨xx_NoDoing, xk_NoDoing, xb_NoDoing, xt_NoDoing, xe_NoDoing, ⟨xg_NoDoing, xh_NoDoing, xb_NoDoing, xd_NoDoing, xc_NoDoing, ocn, oct, xm_NoDoing⟩, xi1_NoDoing, xi2_NoDoing, xi3_NoDoing, xi4_NoDoing, xi5_NoDoing, xi6_NoDoing, xi7_NoDoing⟩ }
  have t0 := TQ "_law_by_stand" cd73 P73 rq0 (tab_mk a73 l73 rfl tl73 tp73)
  have t1 := TQ "_law_by_row" cd74 P74 rq1 (tab_mk a74 l74 rfl tl74 tp74)
  have t2 := TQ "_law_by_doing" cd75 P75 rq2 (tab_mk a75 l75 rfl tl75 tp75)
  have t3 := TQ "_law_by_shelf" cd76 P76 rq3 (tab_mk a76 l76 rfl tl76 tp76)
  have t4 := TQ "law" cd78 P78 rq4 (tab_mk a78 l78 rfl tl78 tp78)
  have all5 : ∀ {R : Addr × Addr → Prop}, R (cd73, P73) → R (cd74, P74) → R (cd75, P75) → R (cd76, P76) → R (cd78, P78) → ∀ p ∈ [(cd73, P73), (cd74, P74), (cd75, P75), (cd76, P76), (cd78, P78)], R p := fun h0 h1 h2 h3 h4 => List.forall_mem_cons.mpr ⟨h0, List.forall_mem_cons.mpr ⟨h1, List.forall_mem_cons.mpr ⟨h2, List.forall_mem_cons.mpr ⟨h3, List.forall_mem_cons.mpr ⟨h4, fun _ h => nomatch h⟩⟩⟩⟩⟩
  refine ⟨PySem.W.fnOf "law" "law" (defArgs s_law) (defBody s_law) (defScope s_law) .none kV78 dc78 pm78 an78 (.ref cd78) ct78, [(cd73, P73), (cd74, P74), (cd75, P75), (cd76, P76), (cd78, P78)], sp_law K (tabs5 P73 P74 P75 P76 P78), all5 t0.2 t1.2 t2.2 t3.2 t4.2, all5 tn73 tn74 tn75 tn76 tn78, all5 t0.1 t1.1 t2.1 t3.1 t4.1, fun s v => .of_eq rfl, fun H a ns hl _ hH hS => ⟨a, ns, rfl, hS, hl, ?_, fun _ => rfl⟩, fun base _ _ tb => ?_⟩
  · intro p hp
    unfold tabs5 at hp
    rcases List.mem_cons.mp hp with rfl | hp
    · exact TabS.nil (hH (cd73, P73) (.head _))
    rcases List.mem_cons.mp hp with rfl | hp
    · exact TabS.nil (hH (cd74, P74) (.tail _ (.head _)))
    rcases List.mem_cons.mp hp with rfl | hp
    · exact TabS.nil (hH (cd75, P75) (.tail _ (.tail _ (.head _))))
    rcases List.mem_cons.mp hp with rfl | hp
    · exact TabS.nil (hH (cd76, P76) (.tail _ (.tail _ (.tail _ (.head _)))))
    rcases List.mem_cons.mp hp with rfl | hp
    · exact TabS.nil (hH (cd78, P78) (.tail _ (.tail _ (.tail _ (.tail _ (.head _))))))
    cases hp
  · exact ok_law (fun_mk (st := s_law) l78 c78 k78) T U (L := { c1 := cd73, c2 := cd74, c3 := cd75, c4 := cd76, c5 := cd78, P1 := P73, P2 := P74, P3 := P75, P4 := P76, P5 := P78, k1 := ⟨_, _, _, _, l73, rfl⟩, k2 := ⟨_, _, _, _, l74, rfl⟩, k3 := ⟨_, _, _, _, l75, rfl⟩, k4 := ⟨_, _, _, _, l76, rfl⟩, k5 := ⟨_, _, _, _, l78, rfl⟩, t1 := tb (cd73, P73) (.head _), t2 := tb (cd74, P74) (.tail _ (.head _)), t3 := tb (cd75, P75) (.tail _ (.tail _ (.head _))), t4 := tb (cd76, P76) (.tail _ (.tail _ (.tail _ (.head _)))), t5 := tb (cd78, P78) (.tail _ (.tail _ (.tail _ (.tail _ (.head _))))), nd := pnd })
end PS
open PySem PySem.W PyProof.Rows
set_option maxHeartbeats 0 in
theorem PySem.Challenge.cw_pushshelf_k12_what_is_refused_holds : PySem.Challenge.rw_pushshelf_k12_what_is_refused.Holds := by
  w_on; o_law; k_head; (case hw => w_witness2)
  k_fill
  refine HT.walk_tabsQ (l := PySem.Challenge.rw_pushshelf_k12_what_is_refused) (n := 63) (k := 18) (x := "script") (CX := fun _ => L2.CX0) rfl (by decide) rfl ⟨rfl, by decide, by decide⟩ (fun w h Y => PySem.W.km_in_of Y) ?F (fun _ _ _ _ _ h => h)
  case F =>
    intro w mg fa h KX G hmg TQ
    refine' PS.all_mk KX G hmg TQ ?rq0 ?rq1 ?rq2 ?rq3 ?rq4 ?aC_ShelfError ?aC_NoShelf ?aC_NoStand ?aC_NoRow ?aC_NoDoing ?aC_NoPush ?aC_NoWish ?a0 ?l0 ?c0 ?k0 ?a1 ?l1 ?c1 ?k1 ?a2 ?l2 ?c2 ?k2 ?a3 ?l3 ?c3 ?k3 ?a4 ?l4 ?c4 ?k4 ?a5 ?l5 ?c5 ?k5 ?a6 ?l6 ?c6 ?k6 ?a7 ?l7 ?c7 ?k7 ?a8 ?l8 ?c8 ?k8 ?a9 ?l9 ?c9 ?k9 ?a10 ?l10 ?c10 ?k10 ?a11 ?l11 ?c11 ?k11 ?a12 ?l12 ?c12 ?k12 ?a13 ?l13 ?c13 ?k13 ?a14 ?l14 ?c14 ?k14 ?a15 ?l15 ?c15 ?k15 ?a16 ?l16 ?c16 ?k16 ?a17 ?l17 ?c17 ?k17 ?a18 ?l18 ?c18 ?k18 ?a19 ?l19 ?c19 ?k19 ?a20 ?l20 ?c20 ?k20 ?a21 ?l21 ?c21 ?k21 ?a22 ?l22 ?c22 ?k22 ?a23 ?l23 ?c23 ?k23 ?a24 ?l24 ?c24 ?k24 ?a25 ?l25 ?c25 ?k25 ?a26 ?l26 ?c26 ?k26 ?a27 ?l27 ?c27 ?k27 ?a28 ?l28 ?c28 ?k28 ?a29 ?l29 ?c29 ?k29 ?a30 ?l30 ?c30 ?k30 ?a31 ?l31 ?c31 ?k31 ?a32 ?l32 ?c32 ?k32 ?a33 ?l33 ?c33 ?k33 ?a34 ?l34 ?c34 ?k34 ?a35 ?l35 ?c35 ?k35 ?a36 ?l36 ?c36 ?k36 ?a37 ?l37 ?c37 ?k37 ?a38 ?l38 ?c38 ?k38 ?a39 ?i39 ?l39 ?c39 ?k39 ?a40 ?l40 ?c40 ?k40 ?a41 ?l41 ?c41 ?k41 ?a42 ?l42 ?c42 ?k42 ?a43 ?l43 ?c43 ?k43 ?a44 ?l44 ?c44 ?k44 ?a45 ?l45 ?c45 ?k45 ?a46 ?l46 ?c46 ?k46 ?a47 ?l47 ?c47 ?k47 ?a48 ?l48 ?c48 ?k48 ?a49 ?l49 ?c49 ?k49 ?a50 ?l50 ?c50 ?k50 ?a51 ?l51 ?c51 ?k51 ?a52 ?l52 ?c52 ?k52 ?a53 ?l53 ?c53 ?k53 ?a54 ?i54 ?l54 ?c54 ?k54 ?a55 ?i55 ?l55 ?c55 ?k55 ?a56 ?i56 ?l56 ?c56 ?k56 ?a57 ?i57 ?l57 ?c57 ?k57 ?a58 ?i58 ?l58 ?c58 ?k58 ?a59 ?i59 ?l59 ?c59 ?k59 ?a60 ?i60 ?l60 ?c60 ?k60 ?a61 ?i61 ?l61 ?c61 ?k61 ?a62 ?i62 ?l62 ?c62 ?k62 ?a63 ?l63 ?c63 ?k63 ?a64 ?l64 ?c64 ?k64 ?a65 ?l65 ?c65 ?k65 ?a66 ?l66 ?c66 ?k66 ?a67 ?l67 ?c67 ?k67 ?a68 ?l68 ?c68 ?k68 ?a69 ?l69 ?c69 ?k69 ?a70 ?l70 ?c70 ?k70 ?a71 ?l71 ?c71 ?k71 ?a72 ?l72 ?c72 ?k72 ?a73 ?l73 ?c73 ?k73 ?tl73 ?tp73 ?tn73 ?a74 ?l74 ?c74 ?k74 ?tl74 ?tp74 ?tn74 ?a75 ?l75 ?c75 ?k75 ?tl75 ?tp75 ?tn75 ?a76 ?l76 ?c76 ?k76 ?tl76 ?tp76 ?tn76 ?a77 ?l77 ?c77 ?k77 ?a78 ?l78 ?c78 ?k78 ?tl78 ?tp78 ?tn78 ?pnd ?aC_Band ?pg_Band ?hd_Band ?po_Band ?sa_Band ?mk_Band ?kc_Band ?na_Band_first ?na_Band_beyond ?na_Band_place ?na_Band_up ?na_Band_down ?aC_Bench ?pg_Bench ?hd_Bench ?po_Bench ?sa_Bench ?mk_Bench ?kc_Bench ?na_Bench_shelf ?na_Bench_now ?na_Bench_least ?na_Bench_greatest ?na_Bench_many ?na_Bench_wish ?z_ValueError ?z_all ?z_bool ?z_enumerate ?z_int ?z_isinstance ?z_len ?z_list ?z_max ?z_min ?z_range ?z_reversed ?z_sorted ?z_sum ?z_tuple ?z_zip ?v_MOST_BLOCKS ?v_MOST_LENGTH ?v_MOST_PLAY ?v_MOST_PUSHES ?ocn ?oct ?xx_NoShelf ?xk_NoShelf ?xb_NoShelf ?xt_NoShelf ?xe_NoShelf ?xg_NoShelf ?xh_NoShelf ?xd_NoShelf ?xc_NoShelf ?xm_NoShelf ?xi1_NoShelf ?xi2_NoShelf ?xi3_NoShelf ?xi4_NoShelf ?xi5_NoShelf ?xi6_NoShelf ?xi7_NoShelf ?xx_NoStand ?xk_NoStand ?xb_NoStand ?xt_NoStand ?xe_NoStand ?xg_NoStand ?xh_NoStand ?xd_NoStand ?xc_NoStand ?xm_NoStand ?xi1_NoStand ?xi2_NoStand ?xi3_NoStand ?xi4_NoStand ?xi5_NoStand ?xi6_NoStand ?xi7_NoStand ?xx_NoRow ?xk_NoRow ?xb_NoRow ?xt_NoRow ?xe_NoRow ?xg_NoRow ?xh_NoRow ?xd_NoRow ?xc_NoRow ?xm_NoRow ?xi1_NoRow ?xi2_NoRow ?xi3_NoRow ?xi4_NoRow ?xi5_NoRow ?xi6_NoRow ?xi7_NoRow ?xx_NoDoing ?xk_NoDoing ?xb_NoDoing ?xt_NoDoing ?xe_NoDoing ?xg_NoDoing ?xh_NoDoing ?xd_NoDoing ?xc_NoDoing ?xm_NoDoing ?xi1_NoDoing ?xi2_NoDoing ?xi3_NoDoing ?xi4_NoDoing ?xi5_NoDoing ?xi6_NoDoing ?xi7_NoDoing
    (case rq0 => first | rfl | decide +kernel | kernel_rfl); (case rq1 => first | rfl | decide +kernel | kernel_rfl); (case rq2 => first | rfl | decide +kernel | kernel_rfl); (case rq3 => first | rfl | decide +kernel | kernel_rfl); (case rq4 => first | rfl | decide +kernel | kernel_rfl); (case aC_ShelfError => k_is); (case aC_NoShelf => k_is); (case aC_NoStand => k_is); (case aC_NoRow => k_is); (case aC_NoDoing => k_is); (case aC_NoPush => k_is); (case aC_NoWish => k_is); (case aC_Band => k_is); (case aC_Bench => k_is); (case a0 => k_is); (case l0 => k_is); (case c0 => k_is); (case k0 => k_is); (case a1 => k_is); (case l1 => k_is); (case c1 => k_is); (case k1 => k_is); (case a2 => k_is); (case l2 => k_is); (case c2 => k_is); (case k2 => k_is); (case a3 => k_is); (case l3 => k_is); (case c3 => k_is); (case k3 => k_is); (case a4 => k_is); (case l4 => k_is); (case c4 => k_is); (case k4 => k_is); (case a5 => k_is); (case l5 => k_is); (case c5 => k_is); (case k5 => k_is); (case a6 => k_is); (case l6 => k_is); (case c6 => k_is); (case k6 => k_is); (case a7 => k_is); (case l7 => k_is); (case c7 => k_is); (case k7 => k_is); (case a8 => k_is); (case l8 => k_is); (case c8 => k_is); (case k8 => k_is); (case a9 => k_is); (case l9 => k_is); (case c9 => k_is); (case k9 => k_is); (case a10 => k_is); (case l10 => k_is); (case c10 => k_is); (case k10 => k_is); (case a11 => k_is); (case l11 => k_is); (case c11 => k_is); (case k11 => k_is); (case a12 => k_is); (case l12 => k_is); (case c12 => k_is); (case k12 => k_is); (case a13 => k_is); (case l13 => k_is); (case c13 => k_is); (case k13 => k_is); (case a14 => k_is); (case l14 => k_is); (case c14 => k_is); (case k14 => k_is); (case a15 => k_is); (case l15 => k_is); (case c15 => k_is); (case k15 => k_is); (case a16 => k_is); (case l16 => k_is); (case c16 => k_is); (case k16 => k_is); (case a17 => k_is); (case l17 => k_is); (case c17 => k_is); (case k17 => k_is); (case a18 => k_is); (case l18 => k_is); (case c18 => k_is); (case k18 => k_is); (case a19 => k_is); (case l19 => k_is); (case c19 => k_is); (case k19 => k_is); (case a20 => k_is); (case l20 => k_is); (case c20 => k_is); (case k20 => k_is); (case a21 => k_is); (case l21 => k_is); (case c21 => k_is); (case k21 => k_is); (case a22 => k_is); (case l22 => k_is); (case c22 => k_is); (case k22 => k_is); (case a23 => k_is); (case l23 => k_is); (case c23 => k_is); (case k23 => k_is); (case a24 => k_is); (case l24 => k_is); (case c24 => k_is); (case k24 => k_is); (case a25 => k_is); (case l25 => k_is); (case c25 => k_is); (case k25 => k_is); (case a26 => k_is); (case l26 => k_is); (case c26 => k_is); (case k26 => k_is); (case a27 => k_is); (case l27 => k_is); (case c27 => k_is); (case k27 => k_is); (case a28 => k_is); (case l28 => k_is); (case c28 => k_is); (case k28 => k_is); (case a29 => k_is); (case l29 => k_is); (case c29 => k_is); (case k29 => k_is); (case a30 => k_is); (case l30 => k_is); (case c30 => k_is); (case k30 => k_is); (case a31 => k_is); (case l31 => k_is); (case c31 => k_is); (case k31 => k_is); (case a32 => k_is); (case l32 => k_is); (case c32 => k_is); (case k32 => k_is); (case a33 => k_is); (case l33 => k_is); (case c33 => k_is); (case k33 => k_is); (case a34 => k_is); (case l34 => k_is); (case c34 => k_is); (case k34 => k_is); (case a35 => k_is); (case l35 => k_is); (case c35 => k_is); (case k35 => k_is); (case a36 => k_is); (case l36 => k_is); (case c36 => k_is); (case k36 => k_is); (case a37 => k_is); (case l37 => k_is); (case c37 => k_is); (case k37 => k_is); (case a38 => k_is); (case l38 => k_is); (case c38 => k_is); (case k38 => k_is); (case a39 => k_is); (case i39 => k_is); (case l39 => k_is); (case c39 => k_is); (case k39 => k_is); (case a40 => k_is); (case l40 => k_is); (case c40 => k_is); (case k40 => k_is); (case a41 => k_is); (case l41 => k_is); (case c41 => k_is); (case k41 => k_is); (case a42 => k_is); (case l42 => k_is); (case c42 => k_is); (case k42 => k_is); (case a43 => k_is); (case l43 => k_is); (case c43 => k_is); (case k43 => k_is); (case a44 => k_is); (case l44 => k_is); (case c44 => k_is); (case k44 => k_is); (case a45 => k_is); (case l45 => k_is); (case c45 => k_is); (case k45 => k_is); (case a46 => k_is); (case l46 => k_is); (case c46 => k_is); (case k46 => k_is); (case a47 => k_is); (case l47 => k_is); (case c47 => k_is); (case k47 => k_is); (case a48 => k_is); (case l48 => k_is); (case c48 => k_is); (case k48 => k_is); (case a49 => k_is); (case l49 => k_is); (case c49 => k_is); (case k49 => k_is); (case a50 => k_is); (case l50 => k_is); (case c50 => k_is); (case k50 => k_is); (case a51 => k_is); (case l51 => k_is); (case c51 => k_is); (case k51 => k_is); (case a52 => k_is); (case l52 => k_is); (case c52 => k_is); (case k52 => k_is); (case a53 => k_is); (case l53 => k_is); (case c53 => k_is); (case k53 => k_is); (case a54 => k_is); (case i54 => k_is); (case l54 => k_is); (case c54 => k_is); (case k54 => k_is); (case a55 => k_is); (case i55 => k_is); (case l55 => k_is); (case c55 => k_is); (case k55 => k_is); (case a56 => k_is); (case i56 => k_is); (case l56 => k_is); (case c56 => k_is); (case k56 => k_is); (case a57 => k_is); (case i57 => k_is); (case l57 => k_is); (case c57 => k_is); (case k57 => k_is); (case a58 => k_is); (case i58 => k_is); (case l58 => k_is); (case c58 => k_is); (case k58 => k_is); (case a59 => k_is); (case i59 => k_is); (case l59 => k_is); (case c59 => k_is); (case k59 => k_is); (case a60 => k_is); (case i60 => k_is); (case l60 => k_is); (case c60 => k_is); (case k60 => k_is); (case a61 => k_is); (case i61 => k_is); (case l61 => k_is); (case c61 => k_is); (case k61 => k_is); (case a62 => k_is); (case i62 => k_is); (case l62 => k_is); (case c62 => k_is); (case k62 => k_is); (case a63 => k_is); (case l63 => k_is); (case c63 => k_is); (case k63 => k_is); (case a64 => k_is); (case l64 => k_is); (case c64 => k_is); (case k64 => k_is); (case a65 => k_is); (case l65 => k_is); (case c65 => k_is); (case k65 => k_is); (case a66 => k_is); (case l66 => k_is); (case c66 => k_is); (case k66 => k_is); (case a67 => k_is); (case l67 => k_is); (case c67 => k_is); (case k67 => k_is); (case a68 => k_is); (case l68 => k_is); (case c68 => k_is); (case k68 => k_is); (case a69 => k_is); (case l69 => k_is); (case c69 => k_is); (case k69 => k_is); (case a70 => k_is); (case l70 => k_is); (case c70 => k_is); (case k70 => k_is); (case a71 => k_is); (case l71 => k_is); (case c71 => k_is); (case k71 => k_is); (case a72 => k_is); (case l72 => k_is); (case c72 => k_is); (case k72 => k_is); (case a73 => k_is); (case l73 => k_is); (case c73 => k_is); (case k73 => k_is); (case tl73 => k_is); (case tp73 => exact rfl); (case tn73 => kernel_rfl); (case a74 => k_is); (case l74 => k_is); (case c74 => k_is); (case k74 => k_is); (case tl74 => k_is); (case tp74 => exact rfl); (case tn74 => kernel_rfl); (case a75 => k_is); (case l75 => k_is); (case c75 => k_is); (case k75 => k_is); (case tl75 => k_is); (case tp75 => exact rfl); (case tn75 => kernel_rfl); (case a76 => k_is); (case l76 => k_is); (case c76 => k_is); (case k76 => k_is); (case tl76 => k_is); (case tp76 => exact rfl); (case tn76 => kernel_rfl); (case a77 => k_is); (case l77 => k_is); (case c77 => k_is); (case k77 => k_is); (case a78 => k_is); (case l78 => k_is); (case c78 => k_is); (case k78 => k_is); (case tl78 => k_is); (case tp78 => exact rfl); (case tn78 => kernel_rfl); (case pnd => decide); (case pg_Band => k_is); (case hd_Band => k_is); (case po_Band => k_is); (case sa_Band => k_is); (case mk_Band => k_is); (case kc_Band => k_is); (case na_Band_first => k_is); (case na_Band_beyond => k_is); (case na_Band_place => k_is); (case na_Band_up => k_is); (case na_Band_down => k_is); (case pg_Bench => k_is); (case hd_Bench => k_is); (case po_Bench => k_is); (case sa_Bench => k_is); (case mk_Bench => k_is); (case kc_Bench => k_is); (case na_Bench_shelf => k_is); (case na_Bench_now => k_is); (case na_Bench_least => k_is); (case na_Bench_greatest => k_is); (case na_Bench_many => k_is); (case na_Bench_wish => k_is); (case z_ValueError => k_is); (case z_all => k_is); (case z_bool => k_is); (case z_enumerate => k_is); (case z_int => k_is); (case z_isinstance => k_is); (case z_len => k_is); (case z_list => k_is); (case z_max => k_is); (case z_min => k_is); (case z_range => k_is); (case z_reversed => k_is); (case z_sorted => k_is); (case z_sum => k_is); (case z_tuple => k_is); (case z_zip => k_is); (case v_MOST_BLOCKS => k_is); (case v_MOST_LENGTH => k_is); (case v_MOST_PLAY => k_is); (case v_MOST_PUSHES => k_is); (case ocn => k_is); (case oct => k_is); (case xx_NoShelf => k_exc); (case xk_NoShelf => k_is); (case xb_NoShelf => k_is); (case xt_NoShelf => k_is); (case xe_NoShelf => kernel_rfl); (case xg_NoShelf => k_is); (case xh_NoShelf => k_is); (case xd_NoShelf => k_is); (case xc_NoShelf => k_is); (case xm_NoShelf => k_is); (case xi1_NoShelf => kernel_rfl); (case xi2_NoShelf => kernel_rfl); (case xi3_NoShelf => kernel_rfl); (case xi4_NoShelf => kernel_rfl); (case xi5_NoShelf => kernel_rfl); (case xi6_NoShelf => kernel_rfl); (case xi7_NoShelf => kernel_rfl); (case xx_NoStand => k_exc); (case xk_NoStand => k_is); (case xb_NoStand => k_is); (case xt_NoStand => k_is); (case xe_NoStand => kernel_rfl); (case xg_NoStand => k_is); (case xh_NoStand => k_is); (case xd_NoStand => k_is); (case xc_NoStand => k_is); (case xm_NoStand => k_is); (case xi1_NoStand => kernel_rfl); (case xi2_NoStand => kernel_rfl); (case xi3_NoStand => kernel_rfl); (case xi4_NoStand => kernel_rfl); (case xi5_NoStand => kernel_rfl); (case xi6_NoStand => kernel_rfl); (case xi7_NoStand => kernel_rfl); (case xx_NoRow => k_exc); (case xk_NoRow => k_is); (case xb_NoRow => k_is); (case xt_NoRow => k_is); (case xe_NoRow => kernel_rfl); (case xg_NoRow => k_is); (case xh_NoRow => k_is); (case xd_NoRow => k_is); (case xc_NoRow => k_is); (case xm_NoRow => k_is); (case xi1_NoRow => kernel_rfl); (case xi2_NoRow => kernel_rfl); (case xi3_NoRow => kernel_rfl); (case xi4_NoRow => kernel_rfl); (case xi5_NoRow => kernel_rfl); (case xi6_NoRow => kernel_rfl); (case xi7_NoRow => kernel_rfl); (case xx_NoDoing => k_exc); (case xk_NoDoing => k_is); (case xb_NoDoing => k_is); (case xt_NoDoing => k_is); (case xe_NoDoing => kernel_rfl); (case xg_NoDoing => k_is); (case xh_NoDoing => k_is); (case xd_NoDoing => k_is); (case xc_NoDoing => k_is); (case xm_NoDoing => k_is); (case xi1_NoDoing => kernel_rfl); (case xi2_NoDoing => kernel_rfl); (case xi3_NoDoing => kernel_rfl); (case xi4_NoDoing => kernel_rfl); (case xi5_NoDoing => kernel_rfl); (case xi6_NoDoing => kernel_rfl); (case xi7_NoDoing => kernel_rfl)



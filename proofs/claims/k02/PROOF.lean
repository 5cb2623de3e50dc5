import PyProof.Rows.All
import Wide.All
import OpenK.AllK
import Wide.FinOn
import HandS.ForMost
import HandS.ForExc
import HandS.IsInst
import HandS.ExcIs
import HandS.ExcInit
import HandS.Wide
import HandS.WideBits
import HandS.Zip
import HandS.Flow
import HandS.Flt
import PySem.Challenge.RW_bearerwise_k02_pieces
set_option Elab.async false
set_option linter.all false
set_option maxRecDepth 100000
set_option maxHeartbeats 4000000
namespace My
open PySem L2

/-! ### a def as the top has left it -/
structure DefAt (K : PySem.W.Frag) (mg : Str → Option Value) (x q : Str) (st : Stmt) (ps : List Str) (f : Addr) (fd : FuncData) : Prop where
  F : Fun K x q st f fd
  b : Binds K fd ps []
  m : mg x = some (.ref f)
structure MethAt (K : PySem.W.Frag) (C : Addr) (x q : Str) (st : Stmt) (ps : List Str) (f : Addr) (fd : FuncData) : Prop where
  F : Fun K x q st f fd
  b : Binds K fd ps []
  me : Meth K C x f

structure DefAt0 (K : PySem.W.Frag) (x q : Str) (st : Stmt) (ps : List Str) (f : Addr) (fd : FuncData) : Prop where
  F : Fun K x q st f fd
  b : Binds K fd ps []
structure ClsAt (K : PySem.W.Frag) (C f : Addr) : Prop where
  cl : Cls K C
  mk' : Mk K C f

/-! ### heaps -/
theorem same_upd {H : Hp} {p : Addr} {o : HO} (h : H p = none) : Same H (upd H p o) := fun b x e => by
  rw [upd_ne (ne_of_none e h)]
  exact e
/-- an object that H does not know may change -/
theorem same_mut {H H' : Hp} {p : Addr} {o : HO} (e : Same H H') (h : H p = none) : Same H (upd H' p o) := fun b x hb => by
  rw [upd_ne (ne_of_none hb h)]
  exact e b x hb
theorem sq_of {K : PySem.W.Frag} {H : Hp} {a : Addr} {xs : List V} (h : H a = some (.lst xs)) : SqL K H a xs := Or.inl (Or.inl h)
theorem st_of {K : PySem.W.Frag} {H : Hp} {a : Addr} {xs : List V} (h : H a = some (.tup xs)) : SqT K H a xs := Or.inl (Or.inl h)
theorem Same.sqt {K : PySem.W.Frag} {H H' : Hp} {a : Addr} {xs : List V} (e : Same H H') (h : SqT K H a xs) : SqT K H' a xs := by
  rcases h with (h | ⟨o, h⟩) | h
  · exact .inl (.inl (e _ _ h))
  · exact .inl (.inr ⟨o, e _ _ h⟩)
  · exact .inr h
theorem sz {n : Nat} (h : n ≤ 1000000) : n ≤ sizeLine := Nat.le_trans h (by rw [sizeLine_eq]; decide)
theorem szl {n : Nat} (h : n < 1000000) : n < sizeLine := Nat.lt_of_lt_of_le h (by rw [sizeLine_eq]; decide)

/-- the promises' shapes: a value and the heap as it was; a value; a new list -/
def RV (v : V) (H : Hp) (Q : VK) : Prop := ∀ H', Same H H' → Q v H'
def RL (xs : List V) (H : Hp) (Q : VK) : Prop := ∀ p H', H p = none → Same H H' → H' p = some (.lst xs) → Q (.ref p) H'
def RT (xs : List V) (H : Hp) (Q : VK) : Prop := ∀ p H', H p = none → Same H H' → H' p = some (.tup xs) → Q (.ref p) H'

/-! ### stops for the walk: a proposition that no tuple opens -/
inductive Stop (p : Prop) : Prop where
  | a (h : p) : Stop p
  | b (h : p) : Stop p
theorem Stop.un {p : Prop} (h : Stop p) : p := by cases h <;> assumption

/-! ### an exception of an own class whose __init__ takes nothing and stores nothing: X() -/
def spInit0 : Sp := fun vs H Q _ => ∃ a, vs = [.ref a] ∧ Q .non H
structure PlainExc (P : Program) (w : World) (K : PySem.W.Frag) (mg : Str → Option Value) (base : Heap) (x : Str) (C fI : Addr) (fdI : FuncData) : Prop where
  T : OexC K C
  iC : PySem.W.findIn K (.ref C) "__init__" = some (some (.ref fI))
  tI : PySem.W.typeIn K (.ref fI) = some (.type "function")
  F1 : FnOk P w K mg base CX0 1 fI fdI ["self"] spInit0
  bI : Binds K fdI ["self"] []
  m : mg x = some (.ref C)
open PySem.Spec PyProof.Rows in
theorem mk_endN {X : Cx} {pins : List (Addr × Obj)} {σ : L2.St} {H1 : Hp} {Q : XK} {hp hp2 h2 : Heap} {g1 g2 : Array GenState} {d1 d2 : Drawn} {t1 t2 : Nat} {os1 os2 : OsState} {a C : Addr} (T : Raises X (.ref C)) (I1 : Inv X pins σ H1 ⟨hp, g1, d1, t1, os1⟩)
    (ha : hp.objs.size ≤ a) (k : ∀ b o, hp.get? b = some o → hp2.get? b = some o) (un : Un (frs X.stack) [] (upd H1 a (exo a C none)) (upd H1 a (exo a C none)) hp2 h2) (hok : HOk X.prog X.w (upd H1 a (exo a C none)) h2) (ho : os2 = os1) (hb : AllBare g2)
    (q : Q (.ref C) none H1) : MkP X pins σ Q (.ref a) ⟨h2, g2, d2, t2, os2⟩ := by
  obtain ⟨t0, hoe⟩ := exo_at hok upd_same
  have hn : H1 a = none := I1.hok.fresh ha
  obtain ⟨G, g1', g2'⟩ := restrict h2 fun b => decide (b ≠ a)
  have gk : ∀ b, b ≠ a → G.get? b = h2.get? b := fun b hb => g1' b (decide_eq_true hb)
  have ge : G.get? a = none := g2' a (by simp)
  have nha : ∀ {b : Addr} {o : Obj}, hp.get? b = some o → b ≠ a := fun {b o} z => Nat.ne_of_lt (Nat.lt_of_lt_of_le (Heap.lt_size z) ha)
  have up : ∀ {b : Addr}, b ≠ a → H1 b = none → upd H1 a (exo a C none) b = none := fun {b} hb n => by rw [upd_ne hb]; exact n
  have U : Un (frs X.stack) [] H1 H1 hp G := {
    keep := fun b o z n hf hx => by
      rw [gk b (nha z)]
      exact un.keep b o (k b o z) (up (nha z) n) hf hx
    slot := fun b o z n hf hx => by
      rw [gk b (nha z)]
      exact un.slot b o (k b o z) (up (nha z) n) hf hx
    free := fun b o z n hx => n
    there := fun b o z hx => by
      rw [gk b (nha z)]
      exact un.there b o (k b o z) hx
    tups := fun b xs z => z
    frzs := fun b o v z => z
    tbls := fun b ps z => ⟨#[], by rw [z]; simp⟩ }
  have hok3 : HOk X.prog X.w H1 G := fun b o z => by
    have hba : b ≠ a := fun e => by
      rw [e, hn] at z
      cases z
    have z2 : upd H1 a (exo a C none) b = some o := by rw [upd_ne hba]; exact z
    have noa : ∀ {c : Addr} {u : HO}, H1 c = some u → c ≠ a := fun {c u} hc e => by
      rw [e, hn] at hc
      cases hc
    exact (hok b o z2).stay (fun c v hc y => by
        have hca : c ≠ a := by
          rcases hc with hc | hc
          · rw [hc]
            exact hba
          · exact fun e => by
              rw [e, upd_same] at hc
              exact exo_own (Option.some.inj hc)
        rw [gk c hca]
        exact y)
      (fun c hc => by
        by_cases e : c = a
        · rw [e, upd_same] at hc
          exact absurd (Option.some.inj hc) exo_own
        · rw [upd_ne e] at hc
          exact hc)
      (fun c xs hc => by
        by_cases e : c = a
        · rw [e, upd_same] at hc
          exact absurd (Option.some.inj hc) exo_tup
        · rw [upd_ne e] at hc
          exact hc)
  have J : Inv X pins σ H1 ⟨G, g2, d2, t2, os2⟩ := I1.call' (ch := []) ho U hok3 hb (fun b z => absurd z (by simp))
  refine ⟨a, _, _, ⟨G, g2, d2, t2, os2⟩, _, .ref C, none, rfl, J, fun b o z => ?_, ge, hoe, ⟨rfl, rfl⟩, rfl, rfl, hn, rfl, hb, T, q⟩
  by_cases hba : b = a
  · rw [hba, ge] at z
    cases z
  · exact (gk b hba).symm.trans z
open PySem.Spec PyProof.Rows in
theorem pmk_plain {X : Cx} {x : Str} {C fI : Addr} {fdI : FuncData} {p pos : Pos} (T : PlainExc X.prog X.w X.K X.mg X.base x C fI fdI) (hr : Room 2 X.A) (hg : Gl X x) (hdb : (x == ("__debug__" : Str)) = false := by decide) :
    PMk X (.Call (.Name x p) [] [] pos) (fun _ H Q => Q (.ref C) none H) := by
  intro pins s σ H Q I h
  obtain ⟨nm, q, N, bs, bm, sn, sub, ab, col, dd, k0, k1, k2, k3, k5, hC, hbm⟩ := T.T.cls
  refine wpAny_Call_Name_kw (ld_glob I hg T.m ?_ hdb)
  refine PySem.W.callWith_K0 I.kIn T.T.kC ?_
  show wpAny _ _ (call (.ref C) []) _ _ _
  obtain ⟨hp, g, dr, tk, os⟩ := s
  have hsz : hp.objs.size ≤ hp.objs.size + 1 := Nat.le_succ _
  have hn : H (hp.objs.size + 1) = none := I.hok.fresh hsz
  have kk : ∀ b o, hp.get? b = some o → ((hp.push (PySem.W.kdv_tup [])).push (PySem.HandSPX.excO C hp.objs.size)).get? b = some o := fun b o e => Heap.get?_push_of_some _ (Heap.get?_push_of_some _ e)
  have hget : ((hp.push (PySem.W.kdv_tup [])).push (PySem.HandSPX.excO C hp.objs.size)).get? (hp.objs.size + 1) = some (PySem.HandSPX.excO C hp.objs.size) := by heap_get
  have I2 : Inv X pins σ (upd H (hp.objs.size + 1) (exo (hp.objs.size + 1) C none)) ⟨(hp.push (PySem.W.kdv_tup [])).push (PySem.HandSPX.excO C hp.objs.size), g, dr, tk, os⟩ :=
    I.laid (t' := tk) (a := hp.objs.size + 1) (o := exo (hp.objs.size + 1) C none) (h' := (hp.push (PySem.W.kdv_tup [])).push (PySem.HandSPX.excO C hp.objs.size)) kk hsz (exo_ok hget)
  have r2 : Vals [V.ref (hp.objs.size + 1)] [Value.ref (hp.objs.size + 1)] := .cons rfl .nil
  have hq : spInit0 [V.ref (hp.objs.size + 1)] (upd H (hp.objs.size + 1) (exo (hp.objs.size + 1) C none)) (fun v H2 => v = .non ∧ H2 = upd H (hp.objs.size + 1) (exo (hp.objs.size + 1) C none)) (fun _ _ _ => False) := ⟨_, rfl, rfl, rfl⟩
  refine wpAny_call (PySem.HandSPX.call_own PySem.F.excBase_ValueError (fun Y => PySem.HandSPX.refsVE_contains Y bm hbm) (I.kIn _ _ hC) (PySem.W.looks_findIn I.kIn T.iC) (fun self => PySem.W.bind_fn I.kIn self T.tI) (Nat.zero_le _)
    (codeAny_mono (T.F1.run _ X.stack _ _ ⟨[Value.ref (hp.objs.size + 1)], []⟩ [Value.ref (hp.objs.size + 1)] _ _ (fun _ _ _ => False) (hr.make C [] []) (I2.env0.make C [] []) (T.bI _ [Value.ref (hp.objs.size + 1)] I2.kIn rfl) r2 hq) fun r s' hq' => ?_))
  cases r with
  | error er => exact hq'.elim
  | ok fl =>
    cases fl with
    | ret u =>
      obtain ⟨v, H2, os2, bare2, un2, hok2, rv, ev, eH⟩ := hq'
      subst ev
      subst eH
      obtain ⟨h2, g2, d2, t2, os'⟩ := s'
      exact ⟨rv, mk_endN (raises_own T.T.exC T.T.tyC) I hsz kk un2 hok2 os2 bare2 h⟩
    | next => exact False.elim hq'
    | brk => exact False.elim hq'
    | cont => exact False.elim hq'

theorem ite_t {c A B : Prop} [Decidable c] (hc : c) (h : A) : if decide c = true then A else B := by
  rw [decide_eq_true hc]
  exact iteT h
theorem ite_f {c A B : Prop} [Decidable c] (hc : ¬ c) (h : B) : if decide c = true then A else B := by
  rw [decide_eq_false hc]
  exact iteF h
theorem ite_nt {c A B : Prop} [Decidable c] (hc : ¬ c) (h : A) : if (!decide c) = true then A else B := by
  rw [decide_eq_false hc]
  exact iteT h
theorem ite_nf {c A B : Prop} [Decidable c] (hc : c) (h : B) : if (!decide c) = true then A else B := by
  rw [decide_eq_true hc]
  exact iteF h
theorem ite_by {c A B : Prop} [Decidable c] (h1 : c → A) (h2 : ¬ c → B) : if decide c = true then A else B := by
  by_cases h : c
  · exact ite_t h (h1 h)
  · exact ite_f h (h2 h)
theorem ite_nby {c A B : Prop} [Decidable c] (h1 : ¬ c → A) (h2 : c → B) : if (!decide c) = true then A else B := by
  by_cases h : c
  · exact ite_nf h (h2 h)
  · exact ite_nt h (h1 h)
/-- an item of the ints -/
theorem at_int {ns : List Int} {k : Int} (h0 : 0 ≤ k) (h1 : k < (ns.length : Int)) : atI (ns.map V.int) k = some (V.int (ns.getD k.toNat 0)) := by
  refine at_of (j := k.toNat) (by omega) ?_
  have h2 : k.toNat < ns.length := by omega
  rw [List.getElem?_map, List.getElem?_eq_getElem h2, List.getD_eq_getElem?_getD, List.getElem?_eq_getElem h2]
  rfl
theorem two_pos1 (k : Nat) : (0 : Int) < 1 * 2 ^ k := by
  rw [Int.one_mul]
  exact Int.pow_pos (by decide)
theorem q_int {Q : VK} {x y : Int} {H : Hp} (q : Q (.int x) H) (e : x = y) : Q (.int y) H := e ▸ q
theorem q_bl {Q : VK} {x y : Bool} {H : Hp} (q : Q (.bl x) H) (e : x = y) : Q (.bl y) H := e ▸ q

/-! ### readings that stop the walk where a new object comes: told by what holds of the new heap -/
/-- the closure of a reading: some wish that it keeps, and that is enough -/
def cTE (t : TE) : TE := fun σ H Q => ∃ R : VK, t σ H R ∧ ∀ v H', R v H' → Q v H'
def cTA (t : TA) : TA := fun σ H Q => ∃ R : List V → Hp → Prop, t σ H R ∧ ∀ v H', R v H' → Q v H'
def cTT (t : TT) : TT := fun σ H Q => ∃ R : Bool → Hp → Prop, t σ H R ∧ ∀ v H', R v H' → Q v H'
section
variable {X : Cx} {e : Expr} {es : List Expr} {te : TE} {ta : TA} {tt : TT} {pos : Pos}
theorem pe_c (h : PE X e te) : PE X e (cTE te) := ⟨fun pins s σ H Q I ⟨R, h1, h2⟩ => thn (h.run pins s σ H R I h1) fun u s1 ⟨v, H1, I1, r, q⟩ => ⟨v, H1, I1, r, h2 _ _ q⟩⟩
theorem pa_c (h : PA X es ta) : PA X es (cTA ta) := ⟨fun pos pins s σ H Q I ⟨R, h1, h2⟩ => thn (h.run pos pins s σ H R I h1) fun u s1 ⟨v, H1, I1, r, q⟩ => ⟨v, H1, I1, r, h2 _ _ q⟩⟩
theorem pt_c (h : PT X e tt) : PT X e (cTT tt) := ⟨fun pins s σ H Q I ⟨R, h1, h2⟩ => thn (h.run pins s σ H R I h1) fun u s1 ⟨H1, I1, q⟩ => ⟨H1, I1, h2 _ _ q⟩⟩
theorem pe_weak {te' : TE} (h : PE X e te) (w : ∀ σ H Q, te' σ H Q → te σ H Q) : PE X e te' := ⟨fun pins s σ H Q I q => h.run pins s σ H Q I (w σ H Q q)⟩
theorem ps_weak {st : Stmt} {t t' : TS} (h : PS X st t) (w : ∀ D σ H, t' D σ H → t D σ H) : PS X st t' := ⟨fun pins s σ H D I q => h.run pins s σ H D I (w D σ H q)⟩
end
/-- what is wanted of a new object -/
def NewO (o : HO) (H : Hp) (Q : VK) : Prop := ∀ p H', H p = none → Same H H' → H' p = some o → Q (.ref p) H'
theorem NewO.go {o : HO} {H : Hp} {Q : VK} (h : NewO o H Q) : ∀ p, H p = none → Q (.ref p) (upd H p o) := fun p hp => h p _ hp (same_upd hp) upd_same
@[irreducible] def mTup (t : TA) : TE := fun σ H Q => t σ H fun xs H1 => xs.length ≤ 1000 ∧ NewO (.tup xs) H1 Q
@[irreducible] def mLst (t : TA) : TE := fun σ H Q => t σ H fun xs H1 => xs.length ≤ 1000 ∧ NewO (.lst xs) H1 Q
theorem rd_tup {t : TA} {σ : L2.St} {H : Hp} {Q : VK} (h : t σ H fun xs H1 => xs.length ≤ 1000 ∧ NewO (.tup xs) H1 Q) : mTup t σ H Q := by
  unfold mTup
  exact h
theorem rd_lst {t : TA} {σ : L2.St} {H : Hp} {Q : VK} (h : t σ H fun xs H1 => xs.length ≤ 1000 ∧ NewO (.lst xs) H1 Q) : mLst t σ H Q := by
  unfold mLst
  exact h
@[irreducible] def mCat (K : PySem.W.Frag) : R2 := fun x y H Q => ∃ l b xs zs, x = .ref l ∧ y = .ref b ∧ H l = some (.lst xs) ∧ H b = some (.lst zs) ∧ xs.length + zs.length ≤ 1000000 ∧ NewO (.lst (xs ++ zs)) H Q
theorem rd_cat {K : PySem.W.Frag} {l b : Addr} {xs zs : List V} {H : Hp} {Q : VK} (h1 : H l = some (.lst xs)) (h2 : H b = some (.lst zs)) (hz : xs.length + zs.length ≤ 1000000) (h : NewO (.lst (xs ++ zs)) H Q) : mCat K (.ref l) (.ref b) H Q := by
  unfold mCat
  exact ⟨l, b, xs, zs, rfl, rfl, h1, h2, hz, h⟩
@[irreducible] def mRep : R2 := fun x y H Q => ∃ l k xs, x = .ref l ∧ y = .int k ∧ H l = some (.lst xs) ∧ 0 ≤ k ∧ k ≤ 100000 ∧ xs.length * k.toNat ≤ 1000000 ∧ NewO (.lst (List.replicate k.toNat xs).flatten) H Q
@[irreducible] def mSlL (K : PySem.W.Frag) : V → Option Int → Option Int → Hp → VK → Prop := fun x lo hi H Q => ∃ a xs, x = .ref a ∧ SqL K H a xs ∧ NewO (.lst (cutV xs lo hi)) H Q
theorem rd_sl {K : PySem.W.Frag} {a : Addr} {xs : List V} {lo hi : Option Int} {H : Hp} {Q : VK} (h1 : SqL K H a xs) (h : NewO (.lst (cutV xs lo hi)) H Q) : mSlL K (.ref a) lo hi H Q := by
  unfold mSlL
  exact ⟨a, xs, rfl, h1, h⟩
@[irreducible] def mListOf (K : PySem.W.Frag) : List V → Hp → VK → Prop := fun xs H Q => ∃ p ys, xs = [.ref p] ∧ (SqL K H p ys ∨ SqT K H p ys) ∧ NewO (.lst ys) H Q
theorem rd_list {K : PySem.W.Frag} {a : Addr} {xs : List V} {H : Hp} {Q : VK} (h1 : SqL K H a xs) (h : NewO (.lst xs) H Q) : mListOf K [.ref a] H Q := by
  unfold mListOf
  exact ⟨a, xs, rfl, .inl h1, h⟩
/-- the elements of a comprehension, one by one: what each gives, the heap grown at most -/
def Elt (te : TE) (σ : L2.St) (H : Hp) (y : V) : Prop := ∀ H', Same H H' → te σ H' fun v H'' => v = y ∧ Same H' H''
@[irreducible] def mLcR1 (ta : TA) (j : Nat) (te : TE) (vs : List Nat) : TE := fun σ H Q => ta σ H fun ws H1 => ∃ (n : Int) (f : Nat → V), ws = [.int n] ∧ (-100000 ≤ n ∧ n ≤ 100000) ∧ (∀ i, i < n.toNat → Elt te ((wipe σ vs).set j (some (.int (i : Nat)))) H1 (f i)) ∧ NewO (.lst ((List.range n.toNat).map f)) H1 Q
theorem rd_lcR1 {ta : TA} {j : Nat} {te : TE} {vs : List Nat} {σ : L2.St} {H : Hp} {Q : VK} (h : ta σ H fun ws H1 => ∃ (n : Int) (f : Nat → V), ws = [.int n] ∧ (-100000 ≤ n ∧ n ≤ 100000) ∧ (∀ i, i < n.toNat → Elt te ((wipe σ vs).set j (some (.int (i : Nat)))) H1 (f i)) ∧ NewO (.lst ((List.range n.toNat).map f)) H1 Q) : mLcR1 ta j te vs σ H Q := by
  unfold mLcR1
  exact h
@[irreducible] def mLcL (K : PySem.W.Frag) (tl : TE) (j : Nat) (te : TE) (vs : List Nat) : TE := fun σ H Q => tl σ H fun x H1 => ∃ (a : Addr) (xs : List V) (f : V → V), x = .ref a ∧ SqL K H1 a xs ∧ xs.length ≤ 100000 ∧ (∀ y, y ∈ xs → Elt te ((wipe σ vs).set j (some y)) H1 (f y)) ∧ NewO (.lst (xs.map f)) H1 Q
theorem rd_lcL {K : PySem.W.Frag} {tl : TE} {j : Nat} {te : TE} {vs : List Nat} {σ : L2.St} {H : Hp} {Q : VK} (h : tl σ H fun x H1 => ∃ (a : Addr) (xs : List V) (f : V → V), x = .ref a ∧ SqL K H1 a xs ∧ xs.length ≤ 100000 ∧ (∀ y, y ∈ xs → Elt te ((wipe σ vs).set j (some y)) H1 (f y)) ∧ NewO (.lst (xs.map f)) H1 Q) : mLcL K tl j te vs σ H Q := by
  unfold mLcL
  exact h
theorem wipe_set {σ : L2.St} {vs : List Nat} {j : Nat} {x : Option V} (hj : vs = [j]) : wipe ((wipe σ vs).set j x) vs = wipe σ vs := by
  subst hj
  show ((σ.set j none).set j x).set j none = σ.set j none
  rw [List.set_set, List.set_set]
section
variable {X : Cx} {e : Expr} {es : List Expr} {te : TE} {t ta : TA} {tt : TT} {pos : Pos}
theorem pe_tupM {x1} (h : PA X es t) : PE X (.Tuple es x1 pos) (mTup t) := pe_weak (pe_tup (pa_c h)) fun σ H Q q => by
  unfold mTup at q
  exact ⟨_, q, fun xs H1 r => ⟨sz (Nat.le_trans r.1 (by decide)), r.2.go⟩⟩
theorem pe_lstM (h : PA X es t) : PE X (.List es pos) (mLst t) := pe_weak (pe_lst (pa_c h)) fun σ H Q q => by
  unfold mLst at q
  exact ⟨_, q, fun xs H1 r => ⟨sz (Nat.le_trans r.1 (by decide)), r.2.go⟩⟩
theorem op_catM : OpR X (binaryOp .Add) (mCat X.K) := fun pins s σ H x y v u Q I rx ry q => op_cat pins s σ H x y v u Q I rx ry (by
  unfold mCat at q
  obtain ⟨l, b, xs, zs, e1, e2, h1, h2, hz, h⟩ := q
  exact ⟨l, b, xs, zs, e1, e2, h1, h2, sz hz, h.go⟩)
theorem sl_listM : SlR X (mSlL X.K) := fun pins s σ H x v vl vu lo hi sl Q I rx hs pl pu q => sl_list pins s σ H x v vl vu lo hi sl Q I rx hs pl pu (by
  unfold mSlL at q
  obtain ⟨a, xs, e1, h1, h⟩ := q
  exact ⟨a, xs, e1, h1, h.go⟩)
theorem call_listM : CallR X (.type "list") (mListOf X.K) := fun pins s σ H xs us Q I r q => call_list_of pins s σ H xs us Q I r (by
  unfold mListOf at q
  obtain ⟨a, xs, e1, h1, h⟩ := q
  exact ⟨a, xs, e1, h1, h.go⟩)
/-- [e for x in range(n)] -/
theorem lcR1_of {ta : TA} {j : Nat} {te : TE} {vs : List Nat} {σ : L2.St} {H : Hp} {Q : VK} (hj : vs = [j]) (q : mLcR1 ta j te vs σ H Q) : tLc (iRng1 (cTA ta)) (gName j) tYes (cTE te) vs σ H Q := by
  unfold mLcR1 at q
  refine ⟨_, q, fun ws H1 r => ?_⟩
  obtain ⟨n, f, rfl, hn, he, hq⟩ := r
  obtain ⟨hn0, hn⟩ := hn
  have big : (2 : Int) ^ 62 = 4611686018427387904 := by decide
  refine ⟨n, rfl, by omega, by omega, fun D hD => ?_⟩
  refine lc_range (lo := 0) (n := n.toNat) (fun i H' => Same H1 H' ∧ H' D = some (.lst ((List.range i).map f))) ⟨same_upd hD, upd_same⟩ (fun i H' hi p => ⟨wipe_set hj, ?_⟩) fun H' p => hq D H' hD p.1 p.2
  show cTE te ((wipe σ vs).set j (some (.int (0 + (i : Int))))) H' _
  rw [Int.zero_add]
  refine ⟨_, he i hi H' p.1, fun y H'' r => ?_⟩
  obtain ⟨rfl, s2⟩ := r
  refine ⟨_, s2 _ _ p.2, szl (by rw [List.length_map, List.length_range]; omega), same_mut (p.1.trans s2) hD, ?_⟩
  rw [upd_same, List.range_succ, List.map_append]
  rfl
theorem take_snoc {α : Type} {l : List α} {i : Nat} {x : α} (h : l[i]? = some x) : l.take (i + 1) = l.take i ++ [x] := by
  rw [List.take_add_one, h]
  rfl
/-- [e for x in xs] -/
theorem lcL_of {K : PySem.W.Frag} {tl : TE} {j : Nat} {te : TE} {vs : List Nat} {σ : L2.St} {H : Hp} {Q : VK} (hj : vs = [j]) (q : mLcL K tl j te vs σ H Q) : tLc (iList K (cTE tl)) (gName j) tYes (cTE te) vs σ H Q := by
  unfold mLcL at q
  refine ⟨_, q, fun x H1 r => ?_⟩
  obtain ⟨a, xs, f, rfl, hx, hn, he, hq⟩ := r
  refine ⟨a, rfl, ⟨xs, hx⟩, fun D hD => ?_⟩
  refine lc_list (xs := xs) (fun i H' => Same H1 H' ∧ H' D = some (.lst ((xs.take i).map f))) ⟨same_upd hD, upd_same⟩ (fun i H' _ p => p.1.seq hx) (fun i y H' hi p => ⟨wipe_set hj, ?_⟩) fun H' p => hq D H' hD p.1 (by rw [p.2, List.take_length])
  have hy : y ∈ xs := List.mem_of_getElem? hi
  have hl : i < xs.length := (List.getElem?_eq_some_iff.mp hi).1
  show cTE te ((wipe σ vs).set j (some y)) H' _
  refine ⟨_, he y hy H' p.1, fun z H'' r => ?_⟩
  obtain ⟨rfl, s2⟩ := r
  refine ⟨_, s2 _ _ p.2, szl (by rw [List.length_map, List.length_take]; omega), same_mut (p.1.trans s2) hD, ?_⟩
  rw [upd_same, take_snoc hi, List.map_append]
  rfl
theorem pe_lcR1 {elt : Expr} {scope : Scope} {j : Nat} {x : Str} {a : Expr} {p p2 xpos : Pos} (hc : X.calm = true) (hN : X.N.Nodup) (hg : Gl X "range") (hm : X.mg "range" = none) (ha : PA X [a] ta) (ok : BlkOk X.N X.env.scope scope [(x, j)])
    (hgt : ∀ (s : Shared) (H : Hp) (C : Addr) (cl : List (Str × Addr)) (fp : List Addr), PG (X.blk s H scope (compEnvC scope cl C X.env) fp) (.Name x xpos) (gName j))
    (he : ∀ (s : Shared) (H : Hp) (C : Addr) (cl : List (Str × Addr)) (fp : List Addr), PE (X.blk s H scope (compEnvC scope cl C X.env) fp) elt te)
    (hs : starEach [a] X.env = [(false, eval a X.env)] := by rfl) (hs2 : ∀ y, foldedSetIterable (.Call (.Name "range" p) [a] [] p2) X.env y = pure y := by intro _; rfl) :
    PE X (.ListComp elt [⟨.Name x xpos, .Call (.Name "range" p) [a] [] p2, [], 0⟩] scope pos) (mLcR1 ta j te [j]) :=
  pe_weak (pe_lc hc hN (pi_range1 hg hm (pa_c ha) hs) ok hgt (fun _ _ _ _ _ => pts_nil) (fun s H C cl fp => pe_c (he s H C cl fp)) hs2) fun _ _ _ q => lcR1_of rfl q
theorem pe_lcL {elt it : Expr} {scope : Scope} {j : Nat} {x : Str} {xpos : Pos} (hc : X.calm = true) (hN : X.N.Nodup) {tl : TE} (ha : PE X it tl) (ok : BlkOk X.N X.env.scope scope [(x, j)])
    (hgt : ∀ (s : Shared) (H : Hp) (C : Addr) (cl : List (Str × Addr)) (fp : List Addr), PG (X.blk s H scope (compEnvC scope cl C X.env) fp) (.Name x xpos) (gName j))
    (he : ∀ (s : Shared) (H : Hp) (C : Addr) (cl : List (Str × Addr)) (fp : List Addr), PE (X.blk s H scope (compEnvC scope cl C X.env) fp) elt te) (hs2 : ∀ y, foldedSetIterable it X.env y = pure y := by intro _; rfl) :
    PE X (.ListComp elt [⟨.Name x xpos, it, [], 0⟩] scope pos) (mLcL X.K tl j te [j]) :=
  pe_weak (pe_lc hc hN (pi_list (pe_c ha)) ok hgt (fun _ _ _ _ _ => pts_nil) (fun s H C cl fp => pe_c (he s H C cl fp)) hs2) fun _ _ _ q => lcL_of rfl q
theorem ps_setLcR1 {i : Nat} {y : Str} {py spos : Pos} {elt : Expr} {scope : Scope} {j : Nat} {x : Str} {a : Expr} {p p2 xpos : Pos} (hc : X.calm = true) (hN : X.N.Nodup) (hy : X.N[i]? = some y) (hyl : X.env.scope.names.lookup y = some .local)
    (hsw : swapsWith (.ListComp elt [⟨.Name x xpos, .Call (.Name "range" p) [a] [] p2, [], 0⟩] scope pos) (some (.Name y py)) spos.line X.env = pure true) (hg : Gl X "range") (hm : X.mg "range" = none) (ha : PA X [a] ta) (ok : BlkOk X.N X.env.scope scope [(x, j)])
    (hgt : ∀ (s : Shared) (H : Hp) (C : Addr) (cl : List (Str × Addr)) (fp : List Addr), PG (X.blk s H scope (compEnvC scope cl C X.env) fp) (.Name x xpos) (gName j))
    (he : ∀ (s : Shared) (H : Hp) (C : Addr) (cl : List (Str × Addr)) (fp : List Addr), PE (X.blk s H scope (compEnvC scope cl C X.env) fp) elt te)
    (hs : starEach [a] X.env = [(false, eval a X.env)] := by rfl) (hs2 : ∀ y, foldedSetIterable (.Call (.Name "range" p) [a] [] p2) X.env y = pure y := by intro _; rfl) :
    PS X (.Assign [.Name y py] (.ListComp elt [⟨.Name x xpos, .Call (.Name "range" p) [a] [] p2, [], 0⟩] scope pos) spos) (tAsg (mLcR1 ta j te [j]) (gName i)) :=
  ps_weak (ps_setLc hc hN hy hyl hsw (pi_range1 hg hm (pa_c ha) hs) ok hgt (fun _ _ _ _ _ => pts_nil) (fun s H C cl fp => pe_c (he s H C cl fp)) hs2) fun _ _ _ q => lcR1_of rfl q
theorem ps_setLcL {i : Nat} {y : Str} {py spos : Pos} {elt it : Expr} {scope : Scope} {j : Nat} {x : Str} {xpos : Pos} {tl : TE} (hc : X.calm = true) (hN : X.N.Nodup) (hy : X.N[i]? = some y) (hyl : X.env.scope.names.lookup y = some .local)
    (hsw : swapsWith (.ListComp elt [⟨.Name x xpos, it, [], 0⟩] scope pos) (some (.Name y py)) spos.line X.env = pure true) (ha : PE X it tl) (ok : BlkOk X.N X.env.scope scope [(x, j)])
    (hgt : ∀ (s : Shared) (H : Hp) (C : Addr) (cl : List (Str × Addr)) (fp : List Addr), PG (X.blk s H scope (compEnvC scope cl C X.env) fp) (.Name x xpos) (gName j))
    (he : ∀ (s : Shared) (H : Hp) (C : Addr) (cl : List (Str × Addr)) (fp : List Addr), PE (X.blk s H scope (compEnvC scope cl C X.env) fp) elt te) (hs2 : ∀ y, foldedSetIterable it X.env y = pure y := by intro _; rfl) :
    PS X (.Assign [.Name y py] (.ListComp elt [⟨.Name x xpos, it, [], 0⟩] scope pos) spos) (tAsg (mLcL X.K tl j te [j]) (gName i)) :=
  ps_weak (ps_setLc hc hN hy hyl hsw (pi_list (pe_c ha)) ok hgt (fun _ _ _ _ _ => pts_nil) (fun s H C cl fp => pe_c (he s H C cl fp)) hs2) fun _ _ _ q => lcL_of rfl q
/-! ### loops that stop the walk -/
@[irreducible] def mForR1 (ta : TA) (j : Nat) (tb : TS) : TS := fun D σ H => ta σ H fun ws H1 => ∃ (n : Int) (Pv : Nat → L2.St → Hp → Prop), ws = [.int n] ∧ (-100000 ≤ n ∧ n ≤ 100000) ∧ Pv 0 σ H1 ∧
  (∀ i σ' H', i < n.toNat → Pv i σ' H' → tb { D with nx := Pv (i + 1), ct := Pv (i + 1), bk := D.nx } (σ'.set j (some (.int (i : Nat)))) H') ∧ ∀ σ' H', Pv n.toNat σ' H' → D.nx σ' H'
theorem rd_forR1 {ta : TA} {j : Nat} {tb : TS} {D : Ends} {σ : L2.St} {H : Hp} (h : ta σ H fun ws H1 => ∃ (n : Int) (Pv : Nat → L2.St → Hp → Prop), ws = [.int n] ∧ (-100000 ≤ n ∧ n ≤ 100000) ∧ Pv 0 σ H1 ∧
  (∀ i σ' H', i < n.toNat → Pv i σ' H' → tb { D with nx := Pv (i + 1), ct := Pv (i + 1), bk := D.nx } (σ'.set j (some (.int (i : Nat)))) H') ∧ ∀ σ' H', Pv n.toNat σ' H' → D.nx σ' H') : mForR1 ta j tb D σ H := by
  unfold mForR1
  exact h
theorem forR1_of {ta : TA} {j : Nat} {tb : TS} {D : Ends} {σ : L2.St} {H : Hp} (q : mForR1 ta j tb D σ H) : tFor (iRng1 (cTA ta)) (gName j) tb D σ H := by
  unfold mForR1 at q
  refine ⟨_, q, fun ws H1 r => ?_⟩
  obtain ⟨n, Pv, rfl, ⟨hn0, hn⟩, h0, hs, hd⟩ := r
  have big : (2 : Int) ^ 62 = 4611686018427387904 := by decide
  refine ⟨n, rfl, by omega, by omega, for_range (lo := 0) (n := n.toNat) Pv h0 (fun i σ' H' hi p => ?_) hd⟩
  show tb _ (σ'.set j (some (.int (0 + (i : Int))))) H'
  rw [Int.zero_add]
  exact hs i σ' H' hi p
theorem ps_forR1 {j : Nat} {x : Str} {a : Expr} {body : List Stmt} {tb : TS} {p p2 xpos : Pos} (hp : PassesOwn (model X.prog X.w) X.A X.env X.xe) (hc : X.calm = true) (hg : Gl X "range") (hm : X.mg "range" = none) (ha : PA X [a] ta) (hgt : PG X (.Name x xpos) (gName j)) (hb : PSs X body tb)
    (hs : starEach [a] X.env = [(false, eval a X.env)] := by rfl) (hs2 : ∀ y, foldedSetIterable (.Call (.Name "range" p) [a] [] p2) X.env y = pure y := by intro _; rfl) : PS X (.For (.Name x xpos) (.Call (.Name "range" p) [a] [] p2) body [] pos) (mForR1 ta j tb) :=
  ps_weak (ps_for hp hc (pi_range1 hg hm (pa_c ha) hs) hgt hb hs2) fun _ _ _ q => forR1_of q
@[irreducible] def mForR2 (ta : TA) (j : Nat) (tb : TS) : TS := fun D σ H => ta σ H fun ws H1 => ∃ (lo n : Int) (Pv : Nat → L2.St → Hp → Prop), ws = [.int lo, .int n] ∧ (-100000 ≤ lo ∧ lo ≤ 100000 ∧ -100000 ≤ n ∧ n ≤ 100000) ∧ Pv 0 σ H1 ∧
  (∀ i σ' H', i < (n - lo).toNat → Pv i σ' H' → tb { D with nx := Pv (i + 1), ct := Pv (i + 1), bk := D.nx } (σ'.set j (some (.int (lo + (i : Int))))) H') ∧ ∀ σ' H', Pv (n - lo).toNat σ' H' → D.nx σ' H'
theorem rd_forR2 {ta : TA} {j : Nat} {tb : TS} {D : Ends} {σ : L2.St} {H : Hp} (h : ta σ H fun ws H1 => ∃ (lo n : Int) (Pv : Nat → L2.St → Hp → Prop), ws = [.int lo, .int n] ∧ (-100000 ≤ lo ∧ lo ≤ 100000 ∧ -100000 ≤ n ∧ n ≤ 100000) ∧ Pv 0 σ H1 ∧
  (∀ i σ' H', i < (n - lo).toNat → Pv i σ' H' → tb { D with nx := Pv (i + 1), ct := Pv (i + 1), bk := D.nx } (σ'.set j (some (.int (lo + (i : Int))))) H') ∧ ∀ σ' H', Pv (n - lo).toNat σ' H' → D.nx σ' H') : mForR2 ta j tb D σ H := by
  unfold mForR2
  exact h
theorem ps_forR2 {j : Nat} {x : Str} {a b : Expr} {body : List Stmt} {tb : TS} {p p2 xpos : Pos} (hp : PassesOwn (model X.prog X.w) X.A X.env X.xe) (hc : X.calm = true) (hg : Gl X "range") (hm : X.mg "range" = none) (ha : PA X [a, b] ta) (hgt : PG X (.Name x xpos) (gName j)) (hb : PSs X body tb)
    (hs : starEach [a, b] X.env = [(false, eval a X.env), (false, eval b X.env)] := by rfl) (hs3 : starEach [b] X.env = [(false, eval b X.env)] := by rfl) (hs2 : ∀ y, foldedSetIterable (.Call (.Name "range" p) [a, b] [] p2) X.env y = pure y := by intro _; rfl) :
    PS X (.For (.Name x xpos) (.Call (.Name "range" p) [a, b] [] p2) body [] pos) (mForR2 ta j tb) :=
  ps_weak (ps_for hp hc (pi_range2 hg hm (pa_c ha) hs hs3) hgt hb hs2) fun D σ H q => by
    unfold mForR2 at q
    refine ⟨_, q, fun ws H1 r => ?_⟩
    obtain ⟨lo, n, Pv, rfl, ⟨h1, h2, h3, h4⟩, h0, hs, hd⟩ := r
    have big : (2 : Int) ^ 62 = 4611686018427387904 := by decide
    exact ⟨lo, n, rfl, ⟨by omega, by omega, by omega, by omega⟩, for_range (lo := lo) (n := (n - lo).toNat) Pv h0 (fun i σ' H' hi p => hs i σ' H' hi p) hd⟩
/-- for x in xs -/
@[irreducible] def mForL (K : PySem.W.Frag) (tl : TE) (j : Nat) (tb : TS) : TS := fun D σ H => tl σ H fun x H1 => ∃ (a : Addr) (xs : List V) (Pv : Nat → L2.St → Hp → Prop), x = .ref a ∧ SqL K H1 a xs ∧ Pv 0 σ H1 ∧ (∀ i σ' H', i ≤ xs.length → Pv i σ' H' → SqL K H' a xs) ∧
  (∀ i y σ' H', xs[i]? = some y → Pv i σ' H' → tb { D with nx := Pv (i + 1), ct := Pv (i + 1), bk := D.nx } (σ'.set j (some y)) H') ∧ ∀ σ' H', Pv xs.length σ' H' → D.nx σ' H'
theorem rd_forL {K : PySem.W.Frag} {tl : TE} {j : Nat} {tb : TS} {D : Ends} {σ : L2.St} {H : Hp} (h : tl σ H fun x H1 => ∃ (a : Addr) (xs : List V) (Pv : Nat → L2.St → Hp → Prop), x = .ref a ∧ SqL K H1 a xs ∧ Pv 0 σ H1 ∧ (∀ i σ' H', i ≤ xs.length → Pv i σ' H' → SqL K H' a xs) ∧
  (∀ i y σ' H', xs[i]? = some y → Pv i σ' H' → tb { D with nx := Pv (i + 1), ct := Pv (i + 1), bk := D.nx } (σ'.set j (some y)) H') ∧ ∀ σ' H', Pv xs.length σ' H' → D.nx σ' H') : mForL K tl j tb D σ H := by
  unfold mForL
  exact h
theorem ps_forL {j : Nat} {x : Str} {it : Expr} {body : List Stmt} {tb : TS} {tl : TE} {xpos : Pos} (hp : PassesOwn (model X.prog X.w) X.A X.env X.xe) (hc : X.calm = true) (ha : PE X it tl) (hgt : PG X (.Name x xpos) (gName j)) (hb : PSs X body tb)
    (hs2 : ∀ y, foldedSetIterable it X.env y = pure y := by intro _; rfl) : PS X (.For (.Name x xpos) it body [] pos) (mForL X.K tl j tb) :=
  ps_weak (ps_for hp hc (pi_list (pe_c ha)) hgt hb hs2) fun D σ H q => by
    unfold mForL at q
    refine ⟨_, q, fun x H1 r => ?_⟩
    obtain ⟨a, xs, Pv, rfl, hx, h0, hl, hs, hd⟩ := r
    exact ⟨a, rfl, ⟨xs, hx⟩, for_list (xs := xs) Pv h0 hl (fun i y σ' H' hi p => hs i y σ' H' hi p) hd⟩
/-- for .. in xs, the target of any form -/
@[irreducible] def mForG (K : PySem.W.Frag) (tl : TE) (g : TG) (tb : TS) : TS := fun D σ H => tl σ H fun x H1 => ∃ (a : Addr) (xs : List V) (Pv : Nat → L2.St → Hp → Prop), x = .ref a ∧ SqL K H1 a xs ∧ Pv 0 σ H1 ∧ (∀ i σ' H', i ≤ xs.length → Pv i σ' H' → SqL K H' a xs) ∧
  (∀ i y σ' H', xs[i]? = some y → Pv i σ' H' → g y σ' H' fun σ2 H2 => tb { D with nx := Pv (i + 1), ct := Pv (i + 1), bk := D.nx } σ2 H2) ∧ ∀ σ' H', Pv xs.length σ' H' → D.nx σ' H'
theorem rd_forG {K : PySem.W.Frag} {tl : TE} {g : TG} {tb : TS} {D : Ends} {σ : L2.St} {H : Hp} (h : tl σ H fun x H1 => ∃ (a : Addr) (xs : List V) (Pv : Nat → L2.St → Hp → Prop), x = .ref a ∧ SqL K H1 a xs ∧ Pv 0 σ H1 ∧ (∀ i σ' H', i ≤ xs.length → Pv i σ' H' → SqL K H' a xs) ∧
  (∀ i y σ' H', xs[i]? = some y → Pv i σ' H' → g y σ' H' fun σ2 H2 => tb { D with nx := Pv (i + 1), ct := Pv (i + 1), bk := D.nx } σ2 H2) ∧ ∀ σ' H', Pv xs.length σ' H' → D.nx σ' H') : mForG K tl g tb D σ H := by
  unfold mForG
  exact h
theorem ps_forG {tg it : Expr} {body : List Stmt} {g : TG} {tb : TS} {tl : TE} (hp : PassesOwn (model X.prog X.w) X.A X.env X.xe) (hc : X.calm = true) (ha : PE X it tl) (hgt : PG X tg g) (hb : PSs X body tb)
    (hs2 : ∀ y, foldedSetIterable it X.env y = pure y := by intro _; rfl) : PS X (.For tg it body [] pos) (mForG X.K tl g tb) :=
  ps_weak (ps_for hp hc (pi_list (pe_c ha)) hgt hb hs2) fun D σ H q => by
    unfold mForG at q
    refine ⟨_, q, fun x H1 r => ?_⟩
    obtain ⟨a, xs, Pv, rfl, hx, h0, hl, hs, hd⟩ := r
    exact ⟨a, rfl, ⟨xs, hx⟩, for_list (xs := xs) Pv h0 hl (fun i y σ' H' hi p => hs i y σ' H' hi p) hd⟩
/-- for x, y in zip(xs, ys), lists of one length -/
@[irreducible] def mForZ (K : PySem.W.Frag) (ta : TA) (i1 i2 : Nat) (tb : TS) : TS := fun D σ H => ta σ H fun ws H1 => ∃ (a b : Addr) (xs ys : List V) (Pv : Nat → L2.St → Hp → Prop), ws = [.ref a, .ref b] ∧ SqL K H1 a xs ∧ SqL K H1 b ys ∧ xs.length = ys.length ∧ Pv 0 σ H1 ∧ (∀ i σ' H', Pv i σ' H' → SqL K H' a xs ∧ SqL K H' b ys) ∧
  (∀ i x y σ' H' H'', xs[i]? = some x → ys[i]? = some y → Pv i σ' H' → Same H' H'' → tb { D with nx := Pv (i + 1), ct := Pv (i + 1), bk := D.nx } ((σ'.set i1 (some x)).set i2 (some y)) H'') ∧ ∀ σ' H', Pv xs.length σ' H' → D.nx σ' H'
theorem rd_forZ {K : PySem.W.Frag} {ta : TA} {i1 i2 : Nat} {tb : TS} {D : Ends} {σ : L2.St} {H : Hp} (h : ta σ H fun ws H1 => ∃ (a b : Addr) (xs ys : List V) (Pv : Nat → L2.St → Hp → Prop), ws = [.ref a, .ref b] ∧ SqL K H1 a xs ∧ SqL K H1 b ys ∧ xs.length = ys.length ∧ Pv 0 σ H1 ∧ (∀ i σ' H', Pv i σ' H' → SqL K H' a xs ∧ SqL K H' b ys) ∧
  (∀ i x y σ' H' H'', xs[i]? = some x → ys[i]? = some y → Pv i σ' H' → Same H' H'' → tb { D with nx := Pv (i + 1), ct := Pv (i + 1), bk := D.nx } ((σ'.set i1 (some x)).set i2 (some y)) H'') ∧ ∀ σ' H', Pv xs.length σ' H' → D.nx σ' H') : mForZ K ta i1 i2 tb D σ H := by
  unfold mForZ
  exact h
theorem ps_forZ {e e2 : Expr} {kk : Nat} {p p2 tpos : Pos} {i1 i2 : Nat} {body : List Stmt} {tb : TS} {t1 t2 : Expr} (hp : PassesOwn (model X.prog X.w) X.A X.env X.xe) (hc : X.calm = true) (hg : Gl X "zip") (hm : X.mg "zip" = none) (ha : PA X [e, e2] ta)
    (hgt : PG X (.Tuple [t1, t2] kk tpos) (gTup X.K 2 (gCons (gName i1) (gCons (gName i2) gNil)))) (hb : PSs X body tb)
    (hs : starEach [e, e2] X.env = (false, eval e X.env) :: starEach [e2] X.env := by rfl) (hpl : (backTo p2 (starEach [e2] X.env)).any (·.1) = false := by rfl) (hs2 : ∀ y, foldedSetIterable (.Call (.Name "zip" p) [e, e2] [] p2) X.env y = pure y := by intro _; rfl) :
    PS X (.For (.Tuple [t1, t2] kk tpos) (.Call (.Name "zip" p) [e, e2] [] p2) body [] pos) (mForZ X.K ta i1 i2 tb) :=
  ps_weak (ps_for hp hc (pi_zip hg hm (pa_c ha) hs hpl) hgt hb hs2) fun D σ H q => by
    unfold mForZ at q
    refine ⟨_, q, fun ws H1 r => ?_⟩
    obtain ⟨a, b, xs, ys, Pv, rfl, hx, hy, hl, h0, hq, hs, hd⟩ := r
    refine ⟨a, b, xs, ys, rfl, hx, hy, RZ.for_zipL hl Pv h0 hq (fun i x y T σ' H' h1 h2 p hT => ?_) hd⟩
    exact ⟨T, [x, y], rfl, st_of upd_same, rfl, x, [y], rfl, y, [], rfl, rfl, hs i x y σ' H' _ h1 h2 p (same_upd hT)⟩
end
theorem ite_ei {x y : Int} {A B : Prop} (hc : x = y) (h : A) : if decide (V.int x = V.int y) = true then A else B := ite_t (congrArg V.int hc) h
theorem ite_eif {x y : Int} {A B : Prop} (hc : x ≠ y) (h : B) : if decide (V.int x = V.int y) = true then A else B := ite_f (fun e => hc (V.int.inj e)) h
theorem ite_ni {x y : Int} {A B : Prop} (hc : x = y) (h : B) : if (!decide (V.int x = V.int y)) = true then A else B := ite_nf (congrArg V.int hc) h
theorem ite_nit {x y : Int} {A B : Prop} (hc : x ≠ y) (h : A) : if (!decide (V.int x = V.int y)) = true then A else B := ite_nt (fun e => hc (V.int.inj e)) h
theorem ite_eby {x y : Int} {A B : Prop} (h1 : x = y → A) (h2 : x ≠ y → B) : if decide (V.int x = V.int y) = true then A else B := ite_by (fun e => h1 (V.int.inj e)) (fun n => h2 fun e => n (congrArg V.int e))
theorem ite_enby {x y : Int} {A B : Prop} (h1 : x ≠ y → A) (h2 : x = y → B) : if (!decide (V.int x = V.int y)) = true then A else B := ite_nby (fun n => h1 fun e => n (congrArg V.int e)) (fun e => h2 (V.int.inj e))

/-! ### branches that stop the walk -/
@[irreducible] def Br (b : Bool) (A B : Prop) : Prop := if b = true then A else B
section
variable {b : Bool} {A B : Prop}
theorem Br.un (h : Br b A B) : if b = true then A else B := by
  unfold Br at h
  exact h
theorem br_of (h : if b = true then A else B) : Br b A B := by
  unfold Br
  exact h
theorem br_T (h : A) : Br true A B := br_of (iteT h)
theorem br_F (h : B) : Br false A B := br_of (iteF h)
theorem br_nT (h : A) : Br (!false) A B := br_of (iteT h)
theorem br_nF (h : B) : Br (!true) A B := br_of (iteF h)
theorem br_t {c : Prop} [Decidable c] (hc : c) (h : A) : Br (decide c) A B := br_of (ite_t hc h)
theorem br_f {c : Prop} [Decidable c] (hc : ¬ c) (h : B) : Br (decide c) A B := br_of (ite_f hc h)
theorem br_nt {c : Prop} [Decidable c] (hc : ¬ c) (h : A) : Br (!decide c) A B := br_of (ite_nt hc h)
theorem br_nf {c : Prop} [Decidable c] (hc : c) (h : B) : Br (!decide c) A B := br_of (ite_nf hc h)
theorem br_by {c : Prop} [Decidable c] (h1 : c → A) (h2 : ¬ c → B) : Br (decide c) A B := br_of (ite_by h1 h2)
theorem br_nby {c : Prop} [Decidable c] (h1 : ¬ c → A) (h2 : c → B) : Br (!decide c) A B := br_of (ite_nby h1 h2)
theorem br_ei {x y : Int} (hc : x = y) (h : A) : Br (decide (V.int x = V.int y)) A B := br_of (ite_ei hc h)
theorem br_eif {x y : Int} (hc : x ≠ y) (h : B) : Br (decide (V.int x = V.int y)) A B := br_of (ite_eif hc h)
theorem br_ni {x y : Int} (hc : x = y) (h : B) : Br (!decide (V.int x = V.int y)) A B := br_of (ite_ni hc h)
theorem br_nit {x y : Int} (hc : x ≠ y) (h : A) : Br (!decide (V.int x = V.int y)) A B := br_of (ite_nit hc h)
theorem br_eby {x y : Int} (h1 : x = y → A) (h2 : x ≠ y → B) : Br (decide (V.int x = V.int y)) A B := br_of (ite_eby h1 h2)
theorem br_enby {x y : Int} (h1 : x ≠ y → A) (h2 : x = y → B) : Br (!decide (V.int x = V.int y)) A B := br_of (ite_enby h1 h2)
theorem br_b (h1 : b = true → A) (h2 : b = false → B) : Br b A B := by
  cases b with
  | true => exact br_T (h1 rfl)
  | false => exact br_F (h2 rfl)
end
def mIfS (c : TT) (t u : TS) : TS := fun D σ H => c σ H fun b H1 => Br b (t D σ H1) (u D σ H1)
def mIf (c : TT) (ta tb : TE) : TE := fun σ H Q => c σ H fun b H1 => Br b (ta σ H1 Q) (tb σ H1 Q)
def mAnd (t u : TT) : TT := fun σ H Q => t σ H fun c H1 => Br c (u σ H1 Q) (Q false H1)
def mOr (t u : TT) : TT := fun σ H Q => t σ H fun c H1 => Br c (Q true H1) (u σ H1 Q)
def mAndV (ta tb : TE) : TE := fun σ H Q => ta σ H fun x H1 => ∃ c, x = .bl c ∧ Br c (tb σ H1 Q) (Q (.bl false) H1)
def mOrV (ta tb : TE) : TE := fun σ H Q => ta σ H fun x H1 => ∃ c, x = .bl c ∧ Br c (Q (.bl true) H1) (tb σ H1 Q)
def mChain (r r' : R2) (ta tb tc : TE) : TE := fun σ H Q => ta σ H fun x H1 => tb σ H1 fun y H2 => r x y H2 fun z H3 => ∃ k, z = .bl k ∧ Br k (tc σ H3 fun w' H4 => r' y w' H4 Q) (Q (.bl false) H3)
def mNot (t : TT) : TT := fun σ H Q => t σ H fun c H1 => Q (!c) H1
def cR2 (r : R2) : R2 := fun x y H Q => ∃ R : VK, r x y H R ∧ ∀ v H', R v H' → Q v H'
section
variable {X : Cx} {e a b c : Expr} {ta tb tc : TE} {tt tA tB' : TT} {pos : Pos} {t u : TS} {rest : List Expr}
theorem pw_weak {tt' : TT} (h : PW X e tt) (w : ∀ σ H Q, tt' σ H Q → tt σ H Q) : PW X e tt' := ⟨fun wh pins s σ H Q I q => h.run wh pins s σ H Q I (w σ H Q q)⟩
theorem pt_weak {tt' : TT} (h : PT X e tt) (w : ∀ σ H Q, tt' σ H Q → tt σ H Q) : PT X e tt' := ⟨fun pins s σ H Q I q => h.run pins s σ H Q I (w σ H Q q)⟩
theorem opr_c {f : Value → Value → Sem Value} {r : R2} (h : OpR X f r) : OpR X f (cR2 r) := fun pins s σ H x y v u Q I rx ry ⟨R, h1, h2⟩ => thn (h pins s σ H x y v u R I rx ry h1) fun w s1 ⟨z, H1, I1, rz, q⟩ => ⟨z, H1, I1, rz, h2 _ _ q⟩
theorem ps_ifM {bs us : List Stmt} (hc : PT X c tt) (ha : PSs X bs t) (hb : PSs X us u) : PS X (.If c bs us pos) (mIfS tt t u) := ps_weak (ps_if (pt_c hc) ha hb) fun D σ H q => ⟨_, q, fun b H1 r => r.un⟩
theorem pe_ifM (hc : PT X c tt) (ha : PE X a ta) (hb : PE X b tb) : PE X (.IfExp c a b pos) (mIf tt ta tb) := pe_weak (pe_ifExp (pt_c hc) ha hb) fun σ H Q q => ⟨_, q, fun b H1 r => r.un⟩
theorem pw_andM (ha : PT X a tA) (hb : PW X (.BoolOp .And (b :: rest) pos) tB') : PW X (.BoolOp .And (a :: b :: rest) pos) (mAnd tA tB') := pw_weak (pw_and (pt_c ha) hb) fun σ H Q q => ⟨_, q, fun b H1 r => r.un⟩
theorem pw_orM (ha : PT X a tA) (hb : PW X (.BoolOp .Or (b :: rest) pos) tB') : PW X (.BoolOp .Or (a :: b :: rest) pos) (mOr tA tB') := pw_weak (pw_or (pt_c ha) hb) fun σ H Q q => ⟨_, q, fun b H1 r => r.un⟩
theorem pe_andM (ha : PE X a ta) (hb : PE X (.BoolOp .And (b :: rest) pos) tb) : PE X (.BoolOp .And (a :: b :: rest) pos) (mAndV ta tb) := pe_weak (pe_and (pe_c ha) hb) fun σ H Q q => ⟨_, q, fun v H1 ⟨c, e, r⟩ => ⟨c, e, r.un⟩⟩
theorem pe_orM (ha : PE X a ta) (hb : PE X (.BoolOp .Or (b :: rest) pos) tb) : PE X (.BoolOp .Or (a :: b :: rest) pos) (mOrV ta tb) := pe_weak (pe_or (pe_c ha) hb) fun σ H Q q => ⟨_, q, fun v H1 ⟨c, e, r⟩ => ⟨c, e, r.un⟩⟩
theorem pe_chainM {op op' : CmpOp} {r r' : R2} (ho : OpR X (compareOp op) r) (ho' : OpR X (compareOp op') r') (ha : PE X a ta) (hb : PE X b tb) (hc : PE X c tc) (hm : lastMarks [op, op'] [b, c] = false := by with_unfolding_all rfl) : PE X (.Compare a [op, op'] [b, c] pos) (mChain r r' ta tb tc) :=
  pe_weak (pe_chain (opr_c ho) ho' (pe_c ha) (pe_c hb) hc hm) fun σ H Q q => ⟨_, q, fun x H1 q1 => ⟨_, q1, fun y H2 q2 => ⟨_, q2, fun z H3 ⟨k, e, r⟩ => ⟨k, e, r.un⟩⟩⟩⟩
theorem pt_chainM {op op' : CmpOp} {r r' : R2} (ho : OpR X (compareOp op) r) (ho' : OpR X (compareOp op') r') (ha : PE X a ta) (hb : PE X b tb) (hc : PE X c tc) (hm : lastMarks [op, op'] [b, c] = false := by with_unfolding_all rfl) : PT X (.Compare a [op, op'] [b, c] pos) (tTest (mChain r r' ta tb tc)) :=
  pt_weak (pt_chain (opr_c ho) ho' (pe_c ha) (pe_c hb) hc hm) fun σ H Q q => ⟨_, q, fun x H1 q1 => ⟨_, q1, fun y H2 q2 => ⟨_, q2, fun z H3 ⟨k, e, r⟩ => ⟨k, e, r.un⟩⟩⟩⟩
end
/-! ### the operators, told without a redex -/
def mAdd : R2 := fun x y H Q => ∃ i j, x = .int i ∧ y = .int j ∧ Q (.int (i + j)) H
def mSub : R2 := fun x y H Q => ∃ i j, x = .int i ∧ y = .int j ∧ Q (.int (i - j)) H
def mMul : R2 := fun x y H Q => ∃ i j, x = .int i ∧ y = .int j ∧ CMul i j ∧ Q (.int (i * j)) H
def mMulW : R2 := fun x y H Q => ∃ i j, x = .int i ∧ y = .int j ∧ CMulW i j ∧ Q (.int (i * j)) H
def mDiv : R2 := fun x y H Q => ∃ i j, x = .int i ∧ y = .int j ∧ CDiv i j ∧ Q (.int (i / j)) H
def mDivW : R2 := fun x y H Q => ∃ i j, x = .int i ∧ y = .int j ∧ CDivW i j ∧ Q (.int (i / j)) H
def mMod : R2 := fun x y H Q => ∃ i j, x = .int i ∧ y = .int j ∧ 0 < j ∧ Q (.int (i % j)) H
def mPow : R2 := fun x y H Q => ∃ i j, x = .int i ∧ y = .int j ∧ CPow i j ∧ Q (.int (i ^ j.toNat)) H
def mShl1 : R2 := fun x y H Q => ∃ j, x = .int 1 ∧ y = .int j ∧ (0 ≤ j ∧ j ≤ 1000000) ∧ Q (.int (2 ^ j.toNat)) H
def mShl : R2 := fun x y H Q => ∃ i j, x = .int i ∧ y = .int j ∧ CShl i j ∧ Q (.int (i * 2 ^ j.toNat)) H
def mShr : R2 := fun x y H Q => ∃ i j, x = .int i ∧ y = .int j ∧ 0 ≤ j ∧ Q (.int (i / 2 ^ j.toNat)) H
def mAndI : R2 := fun x y H Q => ∃ i j, x = .int i ∧ y = .int j ∧ Q (.int (Builtin.bitAnd i j)) H
def mXorI : R2 := fun x y H Q => ∃ i j, x = .int i ∧ y = .int j ∧ Q (.int (Builtin.bitXor i j)) H
def mLt : R2 := fun x y H Q => ∃ i j, x = .int i ∧ y = .int j ∧ Q (.bl (decide (i < j))) H
def mLe : R2 := fun x y H Q => ∃ i j, x = .int i ∧ y = .int j ∧ Q (.bl (decide (i ≤ j))) H
def mGt : R2 := fun x y H Q => ∃ i j, x = .int i ∧ y = .int j ∧ Q (.bl (decide (j < i))) H
def mGe : R2 := fun x y H Q => ∃ i j, x = .int i ∧ y = .int j ∧ Q (.bl (decide (j ≤ i))) H
section
variable {X : Cx}
theorem op_addM : OpR X (binaryOp .Add) mAdd := op_add
theorem op_subM : OpR X (binaryOp .Sub) mSub := op_sub
theorem op_mulM : OpR X (binaryOp .Mult) mMul := op_mul
theorem op_mulWM : OpR X (binaryOp .Mult) mMulW := op_mulW
theorem op_fdivM : OpR X (binaryOp .FloorDiv) mDiv := op_fdiv
theorem op_fdivWM : OpR X (binaryOp .FloorDiv) mDivW := op_fdivW
theorem op_modM : OpR X (binaryOp .Mod) mMod := op_mod
theorem op_powM : OpR X (binaryOp .Pow) mPow := op_pow
theorem op_shl1M : OpR X (binaryOp .LShift) mShl1 := fun pins s σ H x y v u Q I rx ry ⟨j, e1, e2, hj, q⟩ => op_shl pins s σ H x y v u Q I rx ry ⟨1, j, e1, e2, ⟨hj.1, hj.2, by decide⟩, by
  show Q (.int (1 * 2 ^ j.toNat)) H
  rw [Int.one_mul]
  exact q⟩
theorem op_shlM : OpR X (binaryOp .LShift) mShl := op_shlW
theorem op_shrM : OpR X (binaryOp .RShift) mShr := op_shr
theorem op_bandM : OpR X (binaryOp .BitAnd) mAndI := op_and
theorem op_bxorM : OpR X (binaryOp .BitXor) mXorI := op_xor
theorem op_ltM : OpR X (compareOp .Lt) mLt := op_lt
theorem op_leM : OpR X (compareOp .LtE) mLe := op_le
theorem op_gtM : OpR X (compareOp .Gt) mGt := op_gt
theorem op_geM : OpR X (compareOp .GtE) mGe := op_ge
end

theorem two_pos (k : Nat) : (0 : Int) < 2 ^ k := Int.pow_pos (by decide)

@[irreducible] def mIsi (K : PySem.W.Frag) : List V → Hp → VK → Prop := rIsi K
theorem call_isiM {X : Cx} : CallR X (.builtin "isinstance") (mIsi X.K) := fun pins s σ H xs us Q I r q => call_isi pins s σ H xs us Q I r (by
  unfold mIsi at q
  exact q)
section
variable {K : PySem.W.Frag} {H : Hp} {Q : VK}
theorem rd_isiIB {i : Int} (h : Q (.bl false) H) : mIsi K [.int i, .ty "bool"] H Q := by
  unfold mIsi
  exact ⟨_, _, _, _, false, rfl, ClsV.ty _, TyX.base (TyOf.int _), by rfl, h⟩
theorem rd_isiBB {b : Bool} (h : Q (.bl true) H) : mIsi K [.bl b, .ty "bool"] H Q := by
  unfold mIsi
  exact ⟨_, _, _, _, true, rfl, ClsV.ty _, TyX.base (TyOf.bl _), by rfl, h⟩
theorem rd_isiTT {a : Addr} {xs : List V} (e : H a = some (.tup xs)) (h : Q (.bl true) H) : mIsi K [.ref a, .ty "tuple"] H Q := by
  unfold mIsi
  exact ⟨_, _, _, _, true, rfl, ClsV.ty _, TyX.base (TyOf.tup e), by rfl, h⟩
theorem rd_isiLL {a : Addr} {xs : List V} (e : H a = some (.lst xs)) (h : Q (.bl true) H) : mIsi K [.ref a, .ty "list"] H Q := by
  unfold mIsi
  exact ⟨_, _, _, _, true, rfl, ClsV.ty _, TyX.base (TyOf.lst e), by rfl, h⟩
end

/-! ### equal data -/
def Sh (n : Nat) (d : PyData) : Prop := d.canLay0 = true ∧ d.depth ≤ n
def ShA (n : Nat) (ds : List PyData) : Prop := PyData.canLayAll0 ds = true ∧ PyData.depthAll ds ≤ n
theorem sh_int {i : Int} {n : Nat} : Sh n (.int i) := ⟨rfl, Nat.zero_le _⟩
theorem sh_bl {i : Bool} {n : Nat} : Sh n (.bool i) := ⟨rfl, Nat.zero_le _⟩
theorem sh_non {n : Nat} : Sh n .none := ⟨rfl, Nat.zero_le _⟩
theorem sh_str {x : Str} {n : Nat} (h : PyData.canLay0 (.str x) = true) : Sh n (.str x) := ⟨h, Nat.zero_le _⟩
theorem sh_nil {n : Nat} : ShA n [] := ⟨rfl, Nat.zero_le _⟩
theorem sh_cons {n : Nat} {d : PyData} {ds : List PyData} (h : Sh n d) (k : ShA n ds) : ShA n (d :: ds) := by
  refine ⟨?_, ?_⟩
  · show (d.canLay0 && PyData.canLayAll0 ds) = true
    rw [h.1, k.1]
    rfl
  · show max d.depth (PyData.depthAll ds) ≤ n
    have := h.2
    have := k.2
    omega
theorem sh_lst {n : Nat} {ds : List PyData} (h : ShA n ds) : Sh (n + 1) (.list ds) := ⟨h.1, Nat.succ_le_succ h.2⟩
theorem sh_tup {n : Nat} {ds : List PyData} (h : ShA n ds) : Sh (n + 1) (.tuple ds) := ⟨h.1, Nat.succ_le_succ h.2⟩
theorem sh_map {α : Type} {n : Nat} {f : α → PyData} (h : ∀ x, Sh n (f x)) : ∀ l : List α, ShA n (l.map f)
  | [] => sh_nil
  | x :: r => sh_cons (h x) (sh_map h r)
theorem sh_app {n : Nat} : ∀ {ds es : List PyData}, ShA n ds → ShA n es → ShA n (ds ++ es)
  | [], _, _, k => k
  | d :: r, es, h, k => by
    have h1 : (d.canLay0 && PyData.canLayAll0 r) = true := h.1
    have h2 : max d.depth (PyData.depthAll r) ≤ n := h.2
    rw [Bool.and_eq_true] at h1
    exact sh_cons ⟨h1.1, by omega⟩ (sh_app ⟨h1.2, by omega⟩ k)
theorem Sh.shaped {n : Nat} {d : PyData} (h : Sh n d) (hn : n ≤ 64 := by decide) : SeqAt.shaped d = true := by
  unfold SeqAt.shaped
  rw [h.1, decide_eq_true (Nat.le_trans h.2 hn)]
  rfl
theorem sh_ints {n : Nat} (l : List Int) : ShA n (l.map PyData.int) := sh_map (fun _ => sh_int) l
section
variable {K : PySem.W.Frag} {H : Hp} {Q : VK} {x y : V}
theorem dpa_ints : ∀ l : List Int, DpAll K H (l.map V.int) (l.map PyData.int)
  | [] => .nil
  | i :: r => .cons (.int i) (dpa_ints r)
theorem dp_ints {a : Addr} {l : List Int} (h : SqL K H a (l.map V.int)) : Dp K H (.ref a) (.list (l.map PyData.int)) := .lst h (dpa_ints l)
@[irreducible] def mEqD (K : PySem.W.Frag) : R2 := rEqD K
@[irreducible] def mNeD (K : PySem.W.Frag) : R2 := rNeD K
theorem rd_eqS {n : Nat} (d : PyData) (h1 : Dp K H x d) (h2 : Dp K H y d) (hs : Sh n d) (h : Q (.bl true) H) (hn : n ≤ 64 := by decide) : mEqD K x y H Q := by
  unfold mEqD
  exact ⟨d, d, h1, h2, hs.shaped hn, hs.shaped hn, by rw [PySem.SeqAt.eqv_refl d hs.1]; exact h⟩
theorem rd_neS {n : Nat} (d : PyData) (h1 : Dp K H x d) (h2 : Dp K H y d) (hs : Sh n d) (h : Q (.bl false) H) (hn : n ≤ 64 := by decide) : mNeD K x y H Q := by
  unfold mNeD
  exact ⟨d, d, h1, h2, hs.shaped hn, hs.shaped hn, by rw [PySem.SeqAt.eqv_refl d hs.1]; exact h⟩
/-- of any two: the answer is that of the data -/
theorem rd_eqA {n m : Nat} (d e : PyData) (h1 : Dp K H x d) (h2 : Dp K H y e) (hs : Sh n d) (hs2 : Sh m e) (h : Q (.bl (PyData.eqv d e)) H) (hn : n ≤ 64 := by decide) (hm : m ≤ 64 := by decide) : mEqD K x y H Q := by
  unfold mEqD
  exact ⟨d, e, h1, h2, hs.shaped hn, hs2.shaped hm, h⟩
theorem rd_neA {n m : Nat} (d e : PyData) (h1 : Dp K H x d) (h2 : Dp K H y e) (hs : Sh n d) (hs2 : Sh m e) (h : Q (.bl (!PyData.eqv d e)) H) (hn : n ≤ 64 := by decide) (hm : m ≤ 64 := by decide) : mNeD K x y H Q := by
  unfold mNeD
  exact ⟨d, e, h1, h2, hs.shaped hn, hs2.shaped hm, h⟩
end
section
variable {X : Cx}
theorem op_eqDM (hu : X.A.units + 64 < cLine) : OpR X (compareOp .Eq) (mEqD X.K) := fun pins s σ H x y v u Q I rx ry q => op_eqD hu pins s σ H x y v u Q I rx ry (by
  unfold mEqD at q
  exact q)
theorem op_neDM (hu : X.A.units + 64 < cLine) : OpR X (compareOp .NotEq) (mNeD X.K) := fun pins s σ H x y v u Q I rx ry q => op_neD hu pins s σ H x y v u Q I rx ry (by
  unfold mNeD at q
  exact q)
end
/-! ### one-step readings that know their heap -/
@[irreducible] def mIxL (K : PySem.W.Frag) : R2 := rIxL K
theorem ix_listM {X : Cx} : IxR X (mIxL X.K) := fun value slice pins s σ H x y v u Q I rx ry q e => ix_list value slice pins s σ H x y v u Q I rx ry (by
  unfold mIxL at q
  exact q) e
@[irreducible] def mIxT (K : PySem.W.Frag) : R2 := rIxT K
theorem ix_tupM {X : Cx} : IxR X (mIxT X.K) := fun value slice pins s σ H x y v u Q I rx ry q e => ix_tup value slice pins s σ H x y v u Q I rx ry (by
  unfold mIxT at q
  exact q) e
section
variable {K : PySem.W.Frag} {H : Hp} {Q : VK} {a : Addr} {xs : List V} {k : Int} {v : V}
theorem rd_ixL (h : SqL K H a xs) (ha : atI xs k = some v) (q : Q v H) : mIxL K (.ref a) (.int k) H Q := by
  unfold mIxL
  exact ⟨a, xs, k, v, rfl, rfl, h, ha, q⟩
theorem rd_ixT (h : SqT K H a xs) (ha : atI xs k = some v) (q : Q v H) : mIxT K (.ref a) (.int k) H Q := by
  unfold mIxT
  exact ⟨a, xs, k, v, rfl, rfl, h, ha, q⟩
theorem rd_ixI {ns : List Int} (h : SqL K H a (ns.map V.int)) (h0 : 0 ≤ k) (h1 : k < (ns.length : Int)) (q : Q (.int (ns.getD k.toNat 0)) H) : mIxL K (.ref a) (.int k) H Q := rd_ixL h (at_int h0 h1) q
end
@[irreducible] def mLen (K : PySem.W.Frag) : List V → Hp → VK → Prop := fun xs H Q => ∃ p ys, xs = [.ref p] ∧ (SqL K H p ys ∨ SqT K H p ys) ∧ Q (.int ys.length) H
theorem call_lenM {X : Cx} : CallR X (.builtin "len") (mLen X.K) := fun pins s σ H xs us Q I r q => call_len_seq pins s σ H xs us Q I r (by
  unfold mLen at q
  exact q)
theorem rd_len {K : PySem.W.Frag} {H : Hp} {Q : VK} {a : Addr} {xs : List V} (h : SqL K H a xs) (q : Q (.int xs.length) H) : mLen K [.ref a] H Q := by
  unfold mLen
  exact ⟨a, xs, rfl, .inl h, q⟩
theorem rd_lenI {K : PySem.W.Frag} {H : Hp} {Q : VK} {a : Addr} {ns : List Int} (h : SqL K H a (ns.map V.int)) (q : Q (.int ns.length) H) : mLen K [.ref a] H Q := rd_len h (by rw [List.length_map]; exact q)
theorem rd_lenT {K : PySem.W.Frag} {H : Hp} {Q : VK} {a : Addr} {xs : List V} (h : SqT K H a xs) (q : Q (.int xs.length) H) : mLen K [.ref a] H Q := by
  unfold mLen
  exact ⟨a, xs, rfl, .inr h, q⟩
/-- xs.append(e) -/
@[irreducible] def mApp (x y : V) (H : Hp) (Q : VK) : Prop := ∃ l xs, x = .ref l ∧ H l = some (.lst xs) ∧ xs.length < 1000000 ∧ Q .non (upd H l (.lst (xs ++ [y])))
def mAppE (to te : TE) : TE := fun σ H Q => to σ H fun x H1 => ∃ l xs, x = .ref l ∧ H1 l = some (.lst xs) ∧ te σ H1 fun y H2 => mApp x y H2 Q
theorem rd_app {l : Addr} {xs : List V} {y : V} {H : Hp} {Q : VK} (h : H l = some (.lst xs)) (hz : xs.length < 1000000) (q : Q .non (upd H l (.lst (xs ++ [y])))) : mApp (.ref l) y H Q := by
  unfold mApp
  exact ⟨l, xs, rfl, h, hz, q⟩
theorem pe_app {X : Cx} {o e : Expr} {to te : TE} {apos cpos : Pos} (ho : PE X o to) (he : PE X e te) (hbase : attributeBase o "append" X.env (eval o X.env) = eval o X.env := by rfl)
    (hfew : ((backTo cpos (starEach [e] X.env)).all (fun x => !x.1) && (backToKw cpos (keywordEach [] X.env)).all (fun x => x.1.isSome)
      && decide ([e].length + ([] : List Keyword).length + (if ([] : List Keyword).isEmpty then 0 else 1) < 30)) = true := by rfl)
    (hline : (apos.endLine == cpos.line) = true := by rfl) (hs : starEach [e] X.env = (false, eval e X.env) :: starEach [] X.env := by rfl) (hplain : (backTo cpos (starEach [] X.env)).any (·.1) = false := by rfl) :
    PE X (.Call (.Attribute o "append" apos) [e] [] cpos) (mAppE to te) :=
  pe_weak (pe_bm PySem.F.plainAttrs_list PySem.F.slot_list_append PySem.F.type_list_append mt_append (pe_c ho) (pa_cons (pe_c he) pa_nil hs) hbase hfew hline hs hplain) fun σ H Q q => by
    refine ⟨_, q, fun x H1 r => ?_⟩
    obtain ⟨l, xs, rfl, h, r⟩ := r
    refine ⟨Or.inl ⟨rfl, _, SqL.of h⟩, _, r, fun y H2 r2 => ?_⟩
    unfold mApp at r2
    obtain ⟨l2, ys, e2, h2, hz, q2⟩ := r2
    exact ⟨l2, ys, y, e2, rfl, h2, szl hz, q2⟩
/-- o[i] = e, o a list -/
@[irreducible] def mSetL : V → V → V → Hp → (Hp → Prop) → Prop := rSetL
theorem set_listM {X : Cx} : PSet X mSetL := fun pins s σ H o i v uo ui uv Q I ro ri rv q => set_list pins s σ H o i v uo ui uv Q I ro ri rv (by
  unfold mSetL at q
  exact q)
theorem rd_setL {l : Addr} {xs : List V} {k : Int} {y : V} {H : Hp} {Q : Hp → Prop} (h : H l = some (.lst xs)) (h0 : 0 ≤ k) (h1 : k < (xs.length : Int)) (q : Q (upd H l (.lst (xs.set k.toNat y)))) : mSetL (.ref l) (.int k) y H Q := by
  unfold mSetL
  refine ⟨l, xs, k, k.toNat, rfl, rfl, h, ?_, q⟩
  unfold ixN
  first
    | (rw [if_pos h0, if_pos (by omega)]; done)
    | (rw [if_neg (by omega), if_pos (by omega)]; done)
    | simp [show ¬ k < 0 by omega, h0, h1]
/-- what a loop keeps of its own list: all else as it was -/
def But (p : Addr) (H H' : Hp) : Prop := ∀ b o, b ≠ p → H b = some o → H' b = some o

@[irreducible] def mSum (K : PySem.W.Frag) : List V → Hp → VK → Prop := rSum K
theorem call_sumM {X : Cx} (hc : X.calm = true) : CallR X (.builtin "sum") (mSum X.K) := fun pins s σ H xs us Q I r q => cr_sum hc pins s σ H xs us Q I r (by
  unfold mSum at q
  exact q)
theorem rd_sum {K : PySem.W.Frag} {H : Hp} {Q : VK} {a : Addr} {ns : List Int} (h : SqL K H a (ns.map V.int)) (q : Q (.int ns.sum) H) : mSum K [.ref a] H Q := by
  unfold mSum
  exact ⟨a, ns, rfl, h, q⟩

/-- isinstance(e, C), e the error that the suite holds, whatever its class -/
def mIsE (K : PySem.W.Frag) (cls : Value) (d : Option Addr) (a : Addr) : List V → Hp → VK → Prop := fun xs H Q => ∃ (D C : Addr) (b : Bool), xs = [.ref a, .ref C] ∧ cls = .ref D ∧ d = none ∧ ExcC K D ∧ PySem.W.kitOne K (.ref D) (.ref C) = some b ∧ Q (.bl b) H
theorem call_isEM {X : Cx} {a : Addr} {oe : Obj} {cls : Value} {d : Option Addr} {pn : List (Addr × Obj)} (hz : Zc cls d oe) (hf : ∃ vs, oe.data = .fields vs) : CallR (X.suite a ((a, oe) :: pn)) (.builtin "isinstance") (mIsE X.K cls d a) := by
  intro pins s σ H xs us Q I r h
  obtain ⟨D, C, b, rfl, rfl, rfl, hD, hk, q⟩ := h
  exact call_isE hD hz hf pins s σ H [.ref a, .ref C] us Q I r ⟨.ref C, .ref C, b, rfl, fun u hu => hu, hk, q⟩
theorem kit_same {K : PySem.W.Frag} {D : Addr} : PySem.W.kitOne K (.ref D) (.ref D) = some true := by
  unfold PySem.W.kitOne
  rw [if_pos (by simp)]

/-! ### constants, extend, repetition, min of three -/
theorem pe_gint {X : Cx} {x : Str} {n : Int} {pos : Pos} (hg : Gl X x) (hm : ∃ t, X.mg x = some (.int n t)) (hd : (x == ("__debug__" : Str)) = false := by decide) : PE X (.Name x pos) (tC (.int n)) := by
  obtain ⟨t, hm⟩ := hm
  exact pe_glob hg hm ⟨t, rfl⟩ hd
@[irreducible] def mExt (x y : V) (H : Hp) (Q : VK) : Prop := ∃ l b xs zs, x = .ref l ∧ y = .ref b ∧ H l = some (.lst xs) ∧ H b = some (.lst zs) ∧ xs.length + zs.length ≤ 1000000 ∧ Q .non (upd H l (.lst (xs ++ zs)))
def mExtE (to te : TE) : TE := fun σ H Q => to σ H fun x H1 => ∃ l xs, x = .ref l ∧ H1 l = some (.lst xs) ∧ te σ H1 fun y H2 => mExt x y H2 Q
theorem rd_ext {l b : Addr} {xs zs : List V} {H : Hp} {Q : VK} (h : H l = some (.lst xs)) (hb : H b = some (.lst zs)) (hz : xs.length + zs.length ≤ 1000000) (q : Q .non (upd H l (.lst (xs ++ zs)))) : mExt (.ref l) (.ref b) H Q := by
  unfold mExt
  exact ⟨l, b, xs, zs, rfl, rfl, h, hb, hz, q⟩
theorem pe_ext {X : Cx} {o e : Expr} {to te : TE} {apos cpos : Pos} (ho : PE X o to) (he : PE X e te) (hbase : attributeBase o "extend" X.env (eval o X.env) = eval o X.env := by rfl)
    (hfew : ((backTo cpos (starEach [e] X.env)).all (fun x => !x.1) && (backToKw cpos (keywordEach [] X.env)).all (fun x => x.1.isSome)
      && decide ([e].length + ([] : List Keyword).length + (if ([] : List Keyword).isEmpty then 0 else 1) < 30)) = true := by rfl)
    (hline : (apos.endLine == cpos.line) = true := by rfl) (hs : starEach [e] X.env = (false, eval e X.env) :: starEach [] X.env := by rfl) (hplain : (backTo cpos (starEach [] X.env)).any (·.1) = false := by rfl) :
    PE X (.Call (.Attribute o "extend" apos) [e] [] cpos) (mExtE to te) :=
  pe_weak (pe_bm PySem.F.plainAttrs_list PySem.F.slot_list_extend PySem.F.type_list_extend mt_extend (pe_c ho) (pa_cons (pe_c he) pa_nil hs) hbase hfew hline hs hplain) fun σ H Q q => by
    refine ⟨_, q, fun x H1 r => ?_⟩
    obtain ⟨l, xs, rfl, h, r⟩ := r
    refine ⟨Or.inl ⟨rfl, _, SqL.of h⟩, _, r, fun y H2 r2 => ?_⟩
    unfold mExt at r2
    obtain ⟨l2, b2, ys, zs, e2, rfl, h2, h3, hz, q2⟩ := r2
    exact ⟨l2, b2, ys, zs, e2, rfl, h2, h3, sz hz, q2⟩
theorem op_repM {X : Cx} : OpR X (binaryOp .Mult) mRep := fun pins s σ H x y v u Q I rx ry q => op_rep pins s σ H x y v u Q I rx ry (by
  unfold mRep at q
  obtain ⟨l, k, xs, e1, e2, h1, h0, hk, hz, h⟩ := q
  have big : (2 : Int) ^ 63 = 9223372036854775808 := by decide
  exact ⟨l, k, xs, e1, e2, h1, by omega, by omega, sz hz, h.go⟩)
theorem rd_rep {l : Addr} {k : Int} {xs : List V} {H : Hp} {Q : VK} (h1 : H l = some (.lst xs)) (h0 : 0 ≤ k) (hk : k ≤ 100000) (hz : xs.length * k.toNat ≤ 1000000) (h : NewO (.lst (List.replicate k.toNat xs).flatten) H Q) : mRep (.ref l) (.int k) H Q := by
  unfold mRep
  exact ⟨l, k, xs, rfl, rfl, h1, h0, hk, hz, h⟩
def mMin3 : List V → Hp → VK → Prop := fun vs H Q => ∃ i j k, vs = [.int i, .int j, .int k] ∧ Q (.int (min (min i j) k)) H
theorem call_min3M {X : Cx} (hc : X.calm = true) : CallR X (.builtin "min") mMin3 := fun pins s σ H xs us Q I r ⟨i, j, k, e, q⟩ => call_min3Nu hc pins s σ H xs us Q I r ⟨_, _, _, _, e, by
  show (Option.map (fun c => if c = true then V.int j else V.int i) (some (decide (j < i)))).bind _ = _
  by_cases h : j < i
  · rw [decide_eq_true h]
    show Option.map (fun c => if c = true then V.int k else V.int j) (some (decide (k < j))) = some (.int (min (min i j) k))
    by_cases h2 : k < j
    · rw [decide_eq_true h2]
      show some (V.int k) = _
      congr 2
      omega
    · rw [decide_eq_false h2]
      show some (V.int j) = _
      congr 2
      omega
  · rw [decide_eq_false h]
    show Option.map (fun c => if c = true then V.int k else V.int i) (some (decide (k < i))) = some (.int (min (min i j) k))
    by_cases h2 : k < i
    · rw [decide_eq_true h2]
      show some (V.int k) = _
      congr 2
      omega
    · rw [decide_eq_false h2]
      show some (V.int i) = _
      congr 2
      omega, q⟩
/-! ### comprehensions whose elements are new tuples -/
def EltT (te : TE) (σ : L2.St) (H : Hp) (xs : List V) : Prop := ∀ H', Same H H' → te σ H' fun v H'' => Same H' H'' ∧ ∃ p, v = .ref p ∧ H'' p = some (.tup xs)
def NewTs (n : Nat) (f : Nat → List V) (H : Hp) (Q : VK) : Prop := ∀ (D : Addr) (H' : Hp) (ps : List Addr), H D = none → Same H H' → H' D = some (.lst (ps.map V.ref)) → ps.length = n → (∀ i p, ps[i]? = some p → H' p = some (.tup (f i))) → Q (.ref D) H'
@[irreducible] def mLcTR3 (ta : TA) (j : Nat) (te : TE) (vs : List Nat) : TE := fun σ H Q => ta σ H fun ws H1 => ∃ (lo hi c : Int) (n : Nat) (f : Nat → List V), ws = [.int lo, .int hi, .int c] ∧ RgC lo hi c n ∧ n ≤ 1000 ∧ (∀ i, i < n → EltT te ((wipe σ vs).set j (some (.int (lo + (i : Nat) * c)))) H1 (f i)) ∧ NewTs n f H1 Q
theorem rd_lcTR3 {ta : TA} {j : Nat} {te : TE} {vs : List Nat} {σ : L2.St} {H : Hp} {Q : VK} (h : ta σ H fun ws H1 => ∃ (lo hi c : Int) (n : Nat) (f : Nat → List V), ws = [.int lo, .int hi, .int c] ∧ RgC lo hi c n ∧ n ≤ 1000 ∧ (∀ i, i < n → EltT te ((wipe σ vs).set j (some (.int (lo + (i : Nat) * c)))) H1 (f i)) ∧ NewTs n f H1 Q) : mLcTR3 ta j te vs σ H Q := by
  unfold mLcTR3
  exact h
@[irreducible] def mLcTL (K : PySem.W.Frag) (tl : TE) (j : Nat) (te : TE) (vs : List Nat) : TE := fun σ H Q => tl σ H fun x H1 => ∃ (a : Addr) (xs : List V) (f : Nat → List V), x = .ref a ∧ SqL K H1 a xs ∧ xs.length ≤ 1000 ∧ (∀ i y, xs[i]? = some y → EltT te ((wipe σ vs).set j (some y)) H1 (f i)) ∧ NewTs xs.length f H1 Q
theorem rd_lcTL {K : PySem.W.Frag} {tl : TE} {j : Nat} {te : TE} {vs : List Nat} {σ : L2.St} {H : Hp} {Q : VK} (h : tl σ H fun x H1 => ∃ (a : Addr) (xs : List V) (f : Nat → List V), x = .ref a ∧ SqL K H1 a xs ∧ xs.length ≤ 1000 ∧ (∀ i y, xs[i]? = some y → EltT te ((wipe σ vs).set j (some y)) H1 (f i)) ∧ NewTs xs.length f H1 Q) : mLcTL K tl j te vs σ H Q := by
  unfold mLcTL
  exact h
def TsW (H1 : Hp) (D : Addr) (f : Nat → List V) (i : Nat) (H' : Hp) : Prop := Same H1 H' ∧ ∃ ps : List Addr, H' D = some (.lst (ps.map V.ref)) ∧ ps.length = i ∧ ∀ k p, ps[k]? = some p → H' p = some (.tup (f k))
theorem TsW.next {H1 H' H'' : Hp} {D p : Addr} {f : Nat → List V} {i : Nat} (hD : H1 D = none) (w : TsW H1 D f i H') (s : Same H' H'') (hp : H'' p = some (.tup (f i))) : ∃ acc, H'' D = some (.lst acc) ∧ acc.length = i ∧ TsW H1 D f (i + 1) (upd H'' D (.lst (acc ++ [.ref p]))) := by
  obtain ⟨sm, ps, hd, hl, ht⟩ := w
  have hd2 := s _ _ hd
  have ne : ∀ {q : Addr} {xs : List V}, H'' q = some (.tup xs) → q ≠ D := fun {q xs} h e => by
    rw [e, hd2] at h
    cases h
  refine ⟨_, hd2, by rw [List.length_map, hl], same_mut (sm.trans s) hD, ps ++ [p], ?_, by rw [List.length_append, List.length_singleton, hl], fun k q hk => ?_⟩
  · rw [upd_same, List.map_append]
    rfl
  · by_cases h : k < ps.length
    · rw [List.getElem?_append_left h] at hk
      have := s _ _ (ht k q hk)
      rw [upd_ne (ne this)]
      exact this
    · rw [List.getElem?_append_right (by omega)] at hk
      have h0 : k - ps.length = 0 := by
        cases e : k - ps.length with
        | zero => rfl
        | succ m => rw [e] at hk; simp at hk
      rw [h0] at hk
      have e : p = q := Option.some.inj hk
      have ek : k = i := by omega
      subst e
      rw [ek, upd_ne (ne hp)]
      exact hp
section
variable {X : Cx} {te : TE} {ta : TA} {pos : Pos}
theorem lcTR3_of {ta : TA} {j : Nat} {te : TE} {vs : List Nat} {σ : L2.St} {H : Hp} {Q : VK} (hj : vs = [j]) (q : mLcTR3 ta j te vs σ H Q) : tLc (iRng3 (cTA ta)) (gName j) tYes (cTE te) vs σ H Q := by
  unfold mLcTR3 at q
  refine ⟨_, q, fun ws H1 r => ?_⟩
  obtain ⟨lo, hi, c, n, f, rfl, hr, hn, he, hq⟩ := r
  refine ⟨lo, hi, c, n, rfl, hr, fun D hD => ?_⟩
  refine ⟨fun i m H' => m = n - i ∧ i ≤ n ∧ TsW H1 D f i H', ⟨n, rfl, Nat.zero_le _, same_upd hD, [], upd_same, rfl, fun k p h => by cases h⟩, ?_⟩
  rintro i m H' ⟨rfl, hi, w⟩
  by_cases hlt : i < n
  · refine .inr ⟨hlt, TsW H1 D f (i + 1), fun H2 w2 => ⟨n - (i + 1), by omega, rfl, hlt, w2⟩, fun x H2 y => ?_⟩
    obtain ⟨e, y⟩ := y
    subst e
    subst y
    refine ⟨wipe_set hj, _, he i hlt _ w.1, fun v H'' r => ?_⟩
    obtain ⟨s, p, rfl, hp⟩ := r
    obtain ⟨acc, h1, h2, h3⟩ := w.next hD s hp
    exact ⟨acc, h1, szl (by omega), h3⟩
  · have e : i = n := by omega
    subst e
    obtain ⟨sm, ps, hd, hl, ht⟩ := w
    exact .inl ⟨Nat.le_refl _, hq D H' ps hD sm hd hl ht⟩
theorem lcTL_of {K : PySem.W.Frag} {tl : TE} {j : Nat} {te : TE} {vs : List Nat} {σ : L2.St} {H : Hp} {Q : VK} (hj : vs = [j]) (q : mLcTL K tl j te vs σ H Q) : tLc (iList K (cTE tl)) (gName j) tYes (cTE te) vs σ H Q := by
  unfold mLcTL at q
  refine ⟨_, q, fun x H1 r => ?_⟩
  obtain ⟨a, xs, f, rfl, hx, hn, he, hq⟩ := r
  refine ⟨a, rfl, ⟨xs, hx⟩, fun D hD => ?_⟩
  refine lc_list (xs := xs) (fun i H' => TsW H1 D f i H') ⟨same_upd hD, [], upd_same, rfl, fun k p h => by cases h⟩ (fun i H' _ w => w.1.seq hx) (fun i y H' hi w => ⟨wipe_set hj, _, he i y hi H' w.1, fun v H'' r => ?_⟩) fun H' w => ?_
  · obtain ⟨s, p, rfl, hp⟩ := r
    obtain ⟨acc, h1, h2, h3⟩ := w.next hD s hp
    have hl : i < xs.length := (List.getElem?_eq_some_iff.mp hi).1
    exact ⟨acc, h1, szl (by omega), h3⟩
  · obtain ⟨sm, ps, hd, hl, ht⟩ := w
    exact hq D H' ps hD sm hd hl ht
theorem pe_lcTL {elt it : Expr} {scope : Scope} {j : Nat} {x : Str} {xpos : Pos} (hc : X.calm = true) (hN : X.N.Nodup) {tl : TE} (ha : PE X it tl) (ok : BlkOk X.N X.env.scope scope [(x, j)])
    (hgt : ∀ (s : Shared) (H : Hp) (C : Addr) (cl : List (Str × Addr)) (fp : List Addr), PG (X.blk s H scope (compEnvC scope cl C X.env) fp) (.Name x xpos) (gName j))
    (he : ∀ (s : Shared) (H : Hp) (C : Addr) (cl : List (Str × Addr)) (fp : List Addr), PE (X.blk s H scope (compEnvC scope cl C X.env) fp) elt te) (hs2 : ∀ y, foldedSetIterable it X.env y = pure y := by intro _; rfl) :
    PE X (.ListComp elt [⟨.Name x xpos, it, [], 0⟩] scope pos) (mLcTL X.K tl j te [j]) :=
  pe_weak (pe_lc hc hN (pi_list (pe_c ha)) ok hgt (fun _ _ _ _ _ => pts_nil) (fun s H C cl fp => pe_c (he s H C cl fp)) hs2) fun _ _ _ q => lcTL_of rfl q
theorem ps_setLcTL {i : Nat} {y : Str} {py spos : Pos} {elt it : Expr} {scope : Scope} {j : Nat} {x : Str} {xpos : Pos} {tl : TE} (hc : X.calm = true) (hN : X.N.Nodup) (hy : X.N[i]? = some y) (hyl : X.env.scope.names.lookup y = some .local)
    (hsw : swapsWith (.ListComp elt [⟨.Name x xpos, it, [], 0⟩] scope pos) (some (.Name y py)) spos.line X.env = pure true) (ha : PE X it tl) (ok : BlkOk X.N X.env.scope scope [(x, j)])
    (hgt : ∀ (s : Shared) (H : Hp) (C : Addr) (cl : List (Str × Addr)) (fp : List Addr), PG (X.blk s H scope (compEnvC scope cl C X.env) fp) (.Name x xpos) (gName j))
    (he : ∀ (s : Shared) (H : Hp) (C : Addr) (cl : List (Str × Addr)) (fp : List Addr), PE (X.blk s H scope (compEnvC scope cl C X.env) fp) elt te) (hs2 : ∀ y, foldedSetIterable it X.env y = pure y := by intro _; rfl) :
    PS X (.Assign [.Name y py] (.ListComp elt [⟨.Name x xpos, it, [], 0⟩] scope pos) spos) (tAsg (mLcTL X.K tl j te [j]) (gName i)) :=
  ps_weak (ps_setLc hc hN hy hyl hsw (pi_list (pe_c ha)) ok hgt (fun _ _ _ _ _ => pts_nil) (fun s H C cl fp => pe_c (he s H C cl fp)) hs2) fun _ _ _ q => lcTL_of rfl q
theorem ps_setLcTR3 {i : Nat} {y : Str} {py spos : Pos} {elt : Expr} {scope : Scope} {j : Nat} {x : Str} {a b c : Expr} {p p2 xpos : Pos} (hc : X.calm = true) (hN : X.N.Nodup) (hy : X.N[i]? = some y) (hyl : X.env.scope.names.lookup y = some .local)
    (hsw : swapsWith (.ListComp elt [⟨.Name x xpos, .Call (.Name "range" p) [a, b, c] [] p2, [], 0⟩] scope pos) (some (.Name y py)) spos.line X.env = pure true) (hg : Gl X "range") (hm : X.mg "range" = none) (ha : PA X [a, b, c] ta) (ok : BlkOk X.N X.env.scope scope [(x, j)])
    (hgt : ∀ (s : Shared) (H : Hp) (C : Addr) (cl : List (Str × Addr)) (fp : List Addr), PG (X.blk s H scope (compEnvC scope cl C X.env) fp) (.Name x xpos) (gName j))
    (he : ∀ (s : Shared) (H : Hp) (C : Addr) (cl : List (Str × Addr)) (fp : List Addr), PE (X.blk s H scope (compEnvC scope cl C X.env) fp) elt te)
    (hs : starEach [a, b, c] X.env = (false, eval a X.env) :: starEach [b, c] X.env := by rfl) (hpl : (backTo p2 (starEach [b, c] X.env)).any (·.1) = false := by rfl) (hs2 : ∀ y, foldedSetIterable (.Call (.Name "range" p) [a, b, c] [] p2) X.env y = pure y := by intro _; rfl) :
    PS X (.Assign [.Name y py] (.ListComp elt [⟨.Name x xpos, .Call (.Name "range" p) [a, b, c] [] p2, [], 0⟩] scope pos) spos) (tAsg (mLcTR3 ta j te [j]) (gName i)) :=
  ps_weak (ps_setLc hc hN hy hyl hsw (pi_range3 hg hm (pa_c ha) hs hpl) ok hgt (fun _ _ _ _ _ => pts_nil) (fun s H C cl fp => pe_c (he s H C cl fp)) hs2) fun _ _ _ q => lcTR3_of rfl q
end

/-! ### the same rules within a comprehension: the written part by its own name -/
section
variable {X : Cx} {K : PySem.W.Frag}
theorem ix_listK (h : X.K = K) : IxR X (mIxL K) := h ▸ ix_listM
theorem ix_tupK (h : X.K = K) : IxR X (mIxT K) := h ▸ ix_tupM
theorem call_lenK (h : X.K = K) : CallR X (.builtin "len") (mLen K) := h ▸ call_lenM
end

theorem br_nonI {x : Int} {A B : Prop} (h : B) : Br (decide (V.int x = V.non)) A B := br_f (fun e => by cases e) h
theorem br_nonR {x : Addr} {A B : Prop} (h : B) : Br (decide (V.ref x = V.non)) A B := br_f (fun e => by cases e) h
theorem br_nonN {A B : Prop} (h : A) : Br (decide (V.non = V.non)) A B := br_t rfl h
theorem dec_nonI {x : Int} : decide (V.int x = V.non) = false := decide_eq_false fun e => by cases e
theorem dec_nonR {x : Addr} : decide (V.ref x = V.non) = false := decide_eq_false fun e => by cases e

/-! ### if t: x = e, told once by what x holds behind it -/
@[irreducible] def IfSet (b : Bool) (te : TE) (i : Nat) (D : Ends) (σ : L2.St) (H : Hp) : Prop := ∃ P : V → Hp → Prop, (b = true → te σ H P) ∧ (b = false → ∃ v, σ.set i (some v) = σ ∧ P v H) ∧ ∀ v H', P v H' → D.nx (σ.set i (some v)) H'
theorem rd_ifSet {b : Bool} {te : TE} {i : Nat} {D : Ends} {σ : L2.St} {H : Hp} (P : V → Hp → Prop) (h1 : b = true → te σ H P) (h2 : b = false → ∃ v, σ.set i (some v) = σ ∧ P v H) (k : ∀ v H', P v H' → D.nx (σ.set i (some v)) H') : IfSet b te i D σ H := by
  unfold IfSet
  exact ⟨P, h1, h2, k⟩
def mIfSet (tt : TT) (te : TE) (i : Nat) : TS := fun D σ H => tt σ H fun b H1 => IfSet b te i D σ H1
theorem ps_ifSet {X : Cx} {i : Nat} {x : Str} {c e : Expr} {tt : TT} {te : TE} {pos pos2 pos' : Pos} (hc : PT X c tt) (hN : X.N.Nodup) (hi : X.N[i]? = some x) (hx : Loc X.env.scope x) (he : PE X e te) (hs : swapsWith e (some (.Name x pos')) pos2.line X.env = pure false := by rfl)
    (hf : X.fn x = true ∨ X.env.scope.names.lookup x = some .local := by first | exact .inl rfl | exact .inr rfl | assumption) : PS X (.If c [.Assign [.Name x pos'] e pos2] [] pos) (mIfSet tt te i) :=
  ps_weak (ps_if (pt_c hc) (pss_one (ps_set (i := i) hN hi hx (pe_c he) hs hf)) pss_nil) fun D σ H q => ⟨_, q, fun b H1 r => by
    unfold IfSet at r
    obtain ⟨P, h1, h2, k⟩ := r
    cases b with
    | true => exact iteT ⟨P, h1 rfl, fun v H' p => k v H' p⟩
    | false =>
      obtain ⟨v, e, p⟩ := h2 rfl
      refine iteF ?_
      have := k v H1 p
      rw [e] at this
      exact this⟩
end My

namespace My
open PySem L2
/-! ### the text by places -/
def topS (i : Nat) : Stmt := PySem.Challenge.pw_bearerwise_k02_pieces.main.body.getD i (.Pass ⟨0, 0, 0, 0⟩)
abbrev S_BearerError___init : Stmt := inClass (topS 1) 0
abbrev S_field_bytes : Stmt := topS 4
abbrev S_pack : Stmt := topS 5
abbrev S_unpack : Stmt := topS 6
abbrev S_short : Stmt := topS 8
abbrev S_u_has_offset : Stmt := topS 17
abbrev S_u_data_widths : Stmt := topS 18
abbrev S_u_status_head : Stmt := topS 19
abbrev S_u_range_widths : Stmt := topS 20
abbrev S_data_piece : Stmt := topS 21
abbrev S_status_piece : Stmt := topS 22
abbrev S_status_bytes : Stmt := topS 23
abbrev S_u_read_data : Stmt := topS 24
abbrev S_u_read_status : Stmt := topS 25
abbrev S_read_piece : Stmt := topS 26
abbrev S_u_law_two : Stmt := topS 28
abbrev S_u_law_tape : Stmt := topS 29
abbrev S_u_law_at : Stmt := topS 30
abbrev S_u_law_bytes : Stmt := topS 31
abbrev S_u_law_data : Stmt := topS 32
abbrev S_u_law_status : Stmt := topS 33
abbrev S_u_law_many : Stmt := topS 34
abbrev S_u_law_bit : Stmt := topS 35
abbrev S_u_law_field : Stmt := topS 36
abbrev S_u_law_read : Stmt := topS 37
abbrev S_u_law_refused : Stmt := topS 38
abbrev S_u_law_bent : Stmt := topS 39
abbrev S_law : Stmt := topS 40
theorem sc_BearerError___init : FnScope ["self"] ["self"] (defScope S_BearerError___init) := ⟨rfl, rfl, rfl, by decide +kernel, rfl, by decide +kernel, by decide +kernel⟩
theorem sc_field_bytes : FnScope ["widths", "width"] ["widths"] (defScope S_field_bytes) := ⟨rfl, rfl, rfl, by decide +kernel, rfl, by decide +kernel, by decide +kernel⟩
theorem sc_pack : FnScope ["widths", "values", "size", "row", "width", "value", "at"] ["widths", "values"] (defScope S_pack) := ⟨rfl, rfl, rfl, by decide +kernel, rfl, by decide +kernel, by decide +kernel⟩
theorem sc_unpack : FnScope ["widths", "data", "size", "row", "one", "unread", "values", "width"] ["widths", "data"] (defScope S_unpack) := ⟨rfl, rfl, rfl, by decide +kernel, rfl, by decide +kernel, by decide +kernel⟩
theorem sc_short : FnScope ["number", "bits"] ["number", "bits"] (defScope S_short) := ⟨rfl, rfl, rfl, by decide +kernel, rfl, by decide +kernel, by decide +kernel⟩
theorem sc_u_has_offset : FnScope ["part"] ["part"] (defScope S_u_has_offset) := ⟨rfl, rfl, rfl, by decide +kernel, rfl, by decide +kernel, by decide +kernel⟩
theorem sc_u_data_widths : FnScope ["bits", "part"] ["bits", "part"] (defScope S_u_data_widths) := ⟨rfl, rfl, rfl, by decide +kernel, rfl, by decide +kernel, by decide +kernel⟩
theorem sc_u_status_head : FnScope ["bits"] ["bits"] (defScope S_u_status_head) := ⟨rfl, rfl, rfl, by decide +kernel, rfl, by decide +kernel, by decide +kernel⟩
theorem sc_u_range_widths : FnScope ["bits"] ["bits"] (defScope S_u_range_widths) := ⟨rfl, rfl, rfl, by decide +kernel, rfl, by decide +kernel, by decide +kernel⟩
theorem sc_data_piece : FnScope ["bits", "poll", "number", "part", "offset", "body", "values"] ["bits", "poll", "number", "part", "offset", "body"] (defScope S_data_piece) := ⟨rfl, rfl, rfl, by decide +kernel, rfl, by decide +kernel, by decide +kernel⟩
theorem sc_status_piece : FnScope ["bits", "upto", "missing", "widths", "values", "number", "first", "last"] ["bits", "upto", "missing"] (defScope S_status_piece) := ⟨rfl, rfl, rfl, by decide +kernel, rfl, by decide +kernel, by decide +kernel⟩
theorem sc_status_bytes : FnScope ["bits", "count"] ["bits", "count"] (defScope S_status_bytes) := ⟨rfl, rfl, rfl, by decide +kernel, rfl, by decide +kernel, by decide +kernel⟩
theorem sc_u_read_data : FnScope ["bits", "piece", "widths", "_", "poll", "number", "part", "size", "offset"] ["bits", "piece"] (defScope S_u_read_data) := ⟨rfl, rfl, rfl, by decide +kernel, rfl, by decide +kernel, by decide +kernel⟩
theorem sc_u_read_status : FnScope ["bits", "piece", "widths", "_", "upto", "count", "told", "missing", "at"] ["bits", "piece"] (defScope S_u_read_status) := ⟨rfl, rfl, rfl, by decide +kernel, rfl, by decide +kernel, by decide +kernel⟩
theorem sc_read_piece : FnScope ["bits", "piece"] ["bits", "piece"] (defScope S_read_piece) := ⟨rfl, rfl, rfl, by decide +kernel, rfl, by decide +kernel, by decide +kernel⟩
theorem sc_u_law_two : FnScope ["many", "value", "k"] ["many"] (defScope S_u_law_two) := ⟨rfl, rfl, rfl, by decide +kernel, rfl, by decide +kernel, by decide +kernel⟩
theorem sc_u_law_tape : FnScope ["script", "tape", "k", "value", "step"] ["script"] (defScope S_u_law_tape) := ⟨rfl, rfl, rfl, by decide +kernel, rfl, by decide +kernel, by decide +kernel⟩
theorem sc_u_law_at : FnScope ["tape", "k"] ["tape", "k"] (defScope S_u_law_at) := ⟨rfl, rfl, rfl, by decide +kernel, rfl, by decide +kernel, by decide +kernel⟩
theorem sc_u_law_bytes : FnScope ["widths", "values", "whole", "many", "k", "left", "data"] ["widths", "values"] (defScope S_u_law_bytes) := ⟨rfl, rfl, rfl, by decide +kernel, rfl, by decide +kernel, by decide +kernel⟩
theorem sc_u_law_data : FnScope ["bits", "poll", "number", "part", "offset", "body", "widths", "values"] ["bits", "poll", "number", "part", "offset", "body"] (defScope S_u_law_data) := ⟨rfl, rfl, rfl, by decide +kernel, rfl, by decide +kernel, by decide +kernel⟩
theorem sc_u_law_status : FnScope ["bits", "upto", "missing", "widths", "values", "row"] ["bits", "upto", "missing"] (defScope S_u_law_status) := ⟨rfl, rfl, rfl, by decide +kernel, rfl, by decide +kernel, by decide +kernel⟩
theorem sc_u_law_many : FnScope ["bits", "count"] ["bits", "count"] (defScope S_u_law_many) := ⟨rfl, rfl, rfl, by decide +kernel, rfl, by decide +kernel, by decide +kernel⟩
theorem sc_u_law_bit : FnScope ["data", "at"] ["data", "at"] (defScope S_u_law_bit) := ⟨rfl, rfl, rfl, by decide +kernel, rfl, by decide +kernel, by decide +kernel⟩
theorem sc_u_law_field : FnScope ["data", "at", "width", "value", "k"] ["data", "at", "width"] (defScope S_u_law_field) := ⟨rfl, rfl, rfl, by decide +kernel, rfl, by decide +kernel, by decide +kernel⟩
theorem sc_u_law_read : FnScope ["bits", "data", "count", "missing", "k", "at", "row", "head", "part", "offset"] ["bits", "data"] (defScope S_u_law_read) := ⟨rfl, rfl, rfl, by decide +kernel, rfl, by decide +kernel, by decide +kernel⟩
theorem sc_u_law_refused : FnScope ["bits", "missing", "e"] ["bits", "missing"] (defScope S_u_law_refused) := ⟨rfl, rfl, rfl, by decide +kernel, rfl, by decide +kernel, by decide +kernel⟩
theorem sc_u_law_bent : FnScope ["tape", "piece", "start", "kind", "at", "byte", "k"] ["tape", "piece", "start"] (defScope S_u_law_bent) := ⟨rfl, rfl, rfl, by decide +kernel, rfl, by decide +kernel, by decide +kernel⟩
theorem sc_law : FnScope ["script", "tape", "bits", "number", "part", "offset", "poll", "body", "passed", "piece", "missing", "k", "rows", "status", "due", "bent", "kept", "told", "row"] ["script"] (defScope S_law) := ⟨rfl, rfl, rfl, by decide +kernel, rfl, by decide +kernel, by decide +kernel⟩
/-! ### what the top has written -/
structure Tx (P : Program) (w : World) (K : PySem.W.Frag) (mg : Str → Option Value) (base : Heap) where
  n_len : mg "len" = none
  n_range : mg "range" = none
  n_abs : mg "abs" = none
  n_int : mg "int" = none
  n_sum : mg "sum" = none
  n_zip : mg "zip" = none
  n_isinstance : mg "isinstance" = none
  n_list : mg "list" = none
  n_bool : mg "bool" = none
  g_MOST_BYTES : (∃ t, mg "MOST_BYTES" = some (.int 200 t))
  g_MOST_MISSING : (∃ t, mg "MOST_MISSING" = some (.int 8 t))
  g_DATA : (∃ t, mg "DATA" = some (.int 0 t))
  g_STATUS : (∃ t, mg "STATUS" = some (.int 1 t))
  g_WHOLE : (∃ t, mg "WHOLE" = some (.int 0 t))
  g_END : (∃ t, mg "END" = some (.int 2 t))
  g_WITHIN : (∃ t, mg "WITHIN" = some (.int 3 t))
  C_BearerError : Addr
  g_BearerError : mg "BearerError" = some (.ref C_BearerError)
  C_NotValid : Addr
  g_NotValid : mg "NotValid" = some (.ref C_NotValid)
  a_BearerError___init : Addr
  d_BearerError___init : FuncData
  p_BearerError___init : DefAt0 K "__init__" "BearerError.__init__" S_BearerError___init ["self"] a_BearerError___init d_BearerError___init
  a_field_bytes : Addr
  d_field_bytes : FuncData
  p_field_bytes : DefAt K mg "field_bytes" "field_bytes" S_field_bytes ["widths"] a_field_bytes d_field_bytes
  a_pack : Addr
  d_pack : FuncData
  p_pack : DefAt K mg "pack" "pack" S_pack ["widths", "values"] a_pack d_pack
  a_unpack : Addr
  d_unpack : FuncData
  p_unpack : DefAt K mg "unpack" "unpack" S_unpack ["widths", "data"] a_unpack d_unpack
  a_short : Addr
  d_short : FuncData
  p_short : DefAt K mg "short" "short" S_short ["number", "bits"] a_short d_short
  a_u_has_offset : Addr
  d_u_has_offset : FuncData
  p_u_has_offset : DefAt K mg "_has_offset" "_has_offset" S_u_has_offset ["part"] a_u_has_offset d_u_has_offset
  a_u_data_widths : Addr
  d_u_data_widths : FuncData
  p_u_data_widths : DefAt K mg "_data_widths" "_data_widths" S_u_data_widths ["bits", "part"] a_u_data_widths d_u_data_widths
  a_u_status_head : Addr
  d_u_status_head : FuncData
  p_u_status_head : DefAt K mg "_status_head" "_status_head" S_u_status_head ["bits"] a_u_status_head d_u_status_head
  a_u_range_widths : Addr
  d_u_range_widths : FuncData
  p_u_range_widths : DefAt K mg "_range_widths" "_range_widths" S_u_range_widths ["bits"] a_u_range_widths d_u_range_widths
  a_data_piece : Addr
  d_data_piece : FuncData
  p_data_piece : DefAt K mg "data_piece" "data_piece" S_data_piece ["bits", "poll", "number", "part", "offset", "body"] a_data_piece d_data_piece
  a_status_piece : Addr
  d_status_piece : FuncData
  p_status_piece : DefAt K mg "status_piece" "status_piece" S_status_piece ["bits", "upto", "missing"] a_status_piece d_status_piece
  a_status_bytes : Addr
  d_status_bytes : FuncData
  p_status_bytes : DefAt K mg "status_bytes" "status_bytes" S_status_bytes ["bits", "count"] a_status_bytes d_status_bytes
  a_u_read_data : Addr
  d_u_read_data : FuncData
  p_u_read_data : DefAt K mg "_read_data" "_read_data" S_u_read_data ["bits", "piece"] a_u_read_data d_u_read_data
  a_u_read_status : Addr
  d_u_read_status : FuncData
  p_u_read_status : DefAt K mg "_read_status" "_read_status" S_u_read_status ["bits", "piece"] a_u_read_status d_u_read_status
  a_read_piece : Addr
  d_read_piece : FuncData
  p_read_piece : DefAt K mg "read_piece" "read_piece" S_read_piece ["bits", "piece"] a_read_piece d_read_piece
  a_u_law_two : Addr
  d_u_law_two : FuncData
  p_u_law_two : DefAt K mg "_law_two" "_law_two" S_u_law_two ["many"] a_u_law_two d_u_law_two
  a_u_law_tape : Addr
  d_u_law_tape : FuncData
  p_u_law_tape : DefAt K mg "_law_tape" "_law_tape" S_u_law_tape ["script"] a_u_law_tape d_u_law_tape
  a_u_law_at : Addr
  d_u_law_at : FuncData
  p_u_law_at : DefAt K mg "_law_at" "_law_at" S_u_law_at ["tape", "k"] a_u_law_at d_u_law_at
  a_u_law_bytes : Addr
  d_u_law_bytes : FuncData
  p_u_law_bytes : DefAt K mg "_law_bytes" "_law_bytes" S_u_law_bytes ["widths", "values"] a_u_law_bytes d_u_law_bytes
  a_u_law_data : Addr
  d_u_law_data : FuncData
  p_u_law_data : DefAt K mg "_law_data" "_law_data" S_u_law_data ["bits", "poll", "number", "part", "offset", "body"] a_u_law_data d_u_law_data
  a_u_law_status : Addr
  d_u_law_status : FuncData
  p_u_law_status : DefAt K mg "_law_status" "_law_status" S_u_law_status ["bits", "upto", "missing"] a_u_law_status d_u_law_status
  a_u_law_many : Addr
  d_u_law_many : FuncData
  p_u_law_many : DefAt K mg "_law_many" "_law_many" S_u_law_many ["bits", "count"] a_u_law_many d_u_law_many
  a_u_law_bit : Addr
  d_u_law_bit : FuncData
  p_u_law_bit : DefAt K mg "_law_bit" "_law_bit" S_u_law_bit ["data", "at"] a_u_law_bit d_u_law_bit
  a_u_law_field : Addr
  d_u_law_field : FuncData
  p_u_law_field : DefAt K mg "_law_field" "_law_field" S_u_law_field ["data", "at", "width"] a_u_law_field d_u_law_field
  a_u_law_read : Addr
  d_u_law_read : FuncData
  p_u_law_read : DefAt K mg "_law_read" "_law_read" S_u_law_read ["bits", "data"] a_u_law_read d_u_law_read
  a_u_law_refused : Addr
  d_u_law_refused : FuncData
  p_u_law_refused : DefAt K mg "_law_refused" "_law_refused" S_u_law_refused ["bits", "missing"] a_u_law_refused d_u_law_refused
  a_u_law_bent : Addr
  d_u_law_bent : FuncData
  p_u_law_bent : DefAt K mg "_law_bent" "_law_bent" S_u_law_bent ["tape", "piece", "start"] a_u_law_bent d_u_law_bent
  a_law : Addr
  d_law : FuncData
  p_law : DefAt K mg "law" "law" S_law ["script"] a_law d_law
  o_BearerError : OexC K C_BearerError
  i_BearerError : PySem.W.findIn K (.ref C_BearerError) "__init__" = some (some (.ref a_BearerError___init))
  t_BearerError : PySem.W.typeIn K (.ref a_BearerError___init) = some (.type "function")
  e_BearerError : ExcC K C_BearerError
  s_BearerError_BearerError : PySem.W.subIn K (.ref C_BearerError) (.ref C_BearerError) = some true
  s_BearerError_NotValid : PySem.W.subIn K (.ref C_BearerError) (.ref C_NotValid) = some false
  y_BearerError : PySem.W.typeIn K (.ref C_BearerError) = some (.type "type")
  l_BearerError : PySem.W.isClsIn K C_BearerError = true
  o_NotValid : OexC K C_NotValid
  i_NotValid : PySem.W.findIn K (.ref C_NotValid) "__init__" = some (some (.ref a_BearerError___init))
  t_NotValid : PySem.W.typeIn K (.ref a_BearerError___init) = some (.type "function")
  e_NotValid : ExcC K C_NotValid
  s_NotValid_BearerError : PySem.W.subIn K (.ref C_NotValid) (.ref C_BearerError) = some true
  s_NotValid_NotValid : PySem.W.subIn K (.ref C_NotValid) (.ref C_NotValid) = some true
  y_NotValid : PySem.W.typeIn K (.ref C_NotValid) = some (.type "type")
  l_NotValid : PySem.W.isClsIn K C_NotValid = true
/-! ### the walk's own steps -/
local macro_rules | `(tactic| walk_at "side") => `(tactic| first
  | exact rfl
  | assumption
  | omega
  | decide
  | exact Nat.le_of_ble_eq_true rfl
  | exact ⟨by omega, by omega⟩
  | exact ⟨by omega, by omega, by omega⟩
  | exact Or.inl ⟨by omega, by omega⟩
  | exact Or.inr ⟨by omega, by omega⟩)
local macro_rules | `(tactic| walk_at "sm") => `(tactic| first
  | assumption
  | exact Same.refl _
  | (refine Same.trans ?_ (by assumption); walk_at "sm"))
local macro_rules | `(tactic| walk_at "hp") => `(tactic| first
  | assumption
  | (refine (?_ : Same _ _) _ _ (by assumption); walk_at "sm"))
local macro_rules | `(tactic| walk_at "sq") => `(tactic| first
  | assumption
  | (refine sq_of ?_; assumption)
  | (refine st_of ?_; assumption)
  | (refine Same.seq ?_ (by assumption); walk_at "sm")
  | (refine Same.sqt ?_ (by assumption); walk_at "sm")
  | (refine sq_of ?_; walk_at "hp")
  | (refine st_of ?_; walk_at "hp"))
local macro_rules | `(tactic| walk_at "rd") => `(tactic| first
  | refine ⟨_, rfl, ?_⟩
  | refine ⟨_, _, rfl, rfl, ?_⟩
  | refine Or.inl ⟨_, rfl, ?_⟩
  | refine Or.inr ⟨_, rfl, ?_⟩
  | refine ⟨_, _, _, rfl, ?_⟩
  | with_reducible refine br_nonI ?_
  | with_reducible refine br_nonR ?_
  | with_reducible refine br_nonN ?_
  | refine And.intro (by walk_at "side") ?_
  | refine rd_tup ?_
  | refine rd_lst ?_
  | with_reducible refine br_F ?_
  | with_reducible refine br_T ?_
  | with_reducible refine br_nF ?_
  | with_reducible refine br_nT ?_
  | refine ⟨_, rfl, rfl, ?_⟩
  | refine rd_isiIB ?_
  | refine rd_sum (by walk_at "sq") ?_
  | refine rd_lenI (by walk_at "sq") ?_
  | refine rd_len (by walk_at "sq") ?_
  | refine ⟨_, _, rfl, (by walk_at "hp"), ?_⟩)

section
variable {P : Program} {w : World} {K : PySem.W.Frag} {mg : Str → Option Value} {base : Heap}
theorem ok_BearerError___init (T : Tx P w K mg base) : FnOk P w K mg base CX0 1 T.a_BearerError___init T.d_BearerError___init ["self"] spInit0 := by
  refine T.p_BearerError___init.F.ok sc_BearerError___init (fun vs H Q E h => ?_) (fun cdv A outer s H vs Q E hr h => ?_)
  · obtain ⟨a, rfl, _⟩ := h
    rfl
  · obtain ⟨a, rfl, q⟩ := h
    exact ⟨_, pss_one ps_pass, q⟩
theorem Tx.x_BearerError (T : Tx P w K mg base) : PlainExc P w K mg base "BearerError" T.C_BearerError T.a_BearerError___init T.d_BearerError___init := ⟨T.o_BearerError, T.i_BearerError, T.t_BearerError, ok_BearerError___init T, T.p_BearerError___init.b, T.g_BearerError⟩
theorem Tx.m_BearerError_BearerError (T : Tx P w K mg base) : PySem.W.exmOne K (.ref T.C_BearerError) (.ref T.C_BearerError) = some true := PySem.W.exm_ref T.o_BearerError.exC T.e_BearerError.hd T.y_BearerError T.s_BearerError_BearerError
theorem Tx.m_BearerError_NotValid (T : Tx P w K mg base) : PySem.W.exmOne K (.ref T.C_BearerError) (.ref T.C_NotValid) = some false := PySem.W.exm_ref T.o_NotValid.exC T.e_NotValid.hd T.y_NotValid T.s_BearerError_NotValid
theorem Tx.x_NotValid (T : Tx P w K mg base) : PlainExc P w K mg base "NotValid" T.C_NotValid T.a_BearerError___init T.d_BearerError___init := ⟨T.o_NotValid, T.i_NotValid, T.t_NotValid, ok_BearerError___init T, T.p_BearerError___init.b, T.g_NotValid⟩
theorem Tx.m_NotValid_BearerError (T : Tx P w K mg base) : PySem.W.exmOne K (.ref T.C_NotValid) (.ref T.C_BearerError) = some true := PySem.W.exm_ref T.o_BearerError.exC T.e_BearerError.hd T.y_BearerError T.s_NotValid_BearerError
theorem Tx.m_NotValid_NotValid (T : Tx P w K mg base) : PySem.W.exmOne K (.ref T.C_NotValid) (.ref T.C_NotValid) = some true := PySem.W.exm_ref T.o_NotValid.exC T.e_NotValid.hd T.y_NotValid T.s_NotValid_NotValid
def sp_short (K : PySem.W.Frag) : Sp := fun vs H Q _ => ∃ n b : Int, vs = [.int n, .int b] ∧ 0 ≤ b ∧ b ≤ 1000 ∧ Q (.int (n % 2 ^ b.toNat)) H
@[irreducible] def ip_short (K : PySem.W.Frag) : Sp := sp_short K
theorem op_short {K : PySem.W.Frag} {vs : List V} {H : Hp} {Q : VK} {E : XK} (h : sp_short K vs H Q E) : ip_short K vs H Q E := by
  unfold ip_short
  exact h
theorem un_short {K : PySem.W.Frag} {vs : List V} {H : Hp} {Q : VK} {E : XK} (h : ip_short K vs H Q E) : sp_short K vs H Q E := by
  unfold ip_short at h
  exact h
theorem ok_short (T : Tx P w K mg base) : FnOk P w K mg base CX0 1 T.a_short T.d_short ["number", "bits"] (ip_short K) := by
  refine T.p_short.F.ok sc_short (fun vs H Q E h => ?_) (fun cdv A outer s H vs Q E hr h => ?_)
  · obtain ⟨n, b, rfl, h1, h2, q⟩ := un_short h
    rfl
  · obtain ⟨n, b, rfl, h1, h2, q⟩ := un_short h
    refine ⟨_, (pss_one (ps_ret (pe_op op_modM (pv 0) (pe_op op_shl1M pe_int (pv 1))))), ?_⟩
    (repeat walk_at "rd")
    refine ⟨two_pos _, ?_⟩
    exact q
end
/-! fields: the mathematics -/
def rowP (ps : List (Int × Int)) : Int := ps.foldl (fun r p => r * 2 ^ p.1.toNat + p.2) 0
def okP (p : Int × Int) : Bool := decide (1 ≤ p.1) && decide (0 ≤ p.2) && decide (p.2 < 2 ^ p.1.toNat)
def okF (ws vs : List Int) : Bool := decide (ws.length = vs.length) && (ws.zip vs).all okP
def wok (ws : List Int) : Bool := ws.all fun w => decide (1 ≤ w)
def sizeF (ws : List Int) : Int := (ws.sum + 7) / 8
def byteAt (R : Int) (size i : Nat) : Int := R / 2 ^ (8 * ((size : Int) - 1 - (i : Int))).toNat % 256
def bytesOf (R : Int) (size : Nat) : List Int := (List.range size).map (byteAt R size)
def packF (ws vs : List Int) : List Int := bytesOf (rowP (ws.zip vs) * 2 ^ (8 * sizeF ws - ws.sum).toNat) (sizeF ws).toNat
def num256 (ds : List Int) : Int := ds.foldl (fun r d => r * 2 ^ 8 + d) 0
def fldF (N : Int) : Int → List Int → List Int
  | _, [] => []
  | u, w :: ws => N / 2 ^ (u - w).toNat % 2 ^ w.toNat :: fldF N (u - w) ws
def unpF (ws ds : List Int) : List Int := fldF (num256 (ds.take (sizeF ws).toNat)) (8 * sizeF ws) ws

theorem pow_nn (k : Nat) : (0 : Int) < 2 ^ k := Int.pow_pos (by decide)
theorem pow_add2 (a b : Nat) : (2 : Int) ^ (a + b) = 2 ^ a * 2 ^ b := Int.pow_add ..
theorem rowP_snoc (ps : List (Int × Int)) (p : Int × Int) : rowP (ps ++ [p]) = rowP ps * 2 ^ p.1.toNat + p.2 := by
  unfold rowP
  rw [List.foldl_append]
  rfl
theorem num256_snoc (ds : List Int) (d : Int) : num256 (ds ++ [d]) = num256 ds * 2 ^ 8 + d := by
  unfold num256
  rw [List.foldl_append]
  rfl
theorem okP_iff {p : Int × Int} : okP p = true ↔ 1 ≤ p.1 ∧ 0 ≤ p.2 ∧ p.2 < 2 ^ p.1.toNat := by
  unfold okP
  simp only [Bool.and_eq_true, decide_eq_true_eq, and_assoc]
theorem wok_iff {ws : List Int} : wok ws = true ↔ ∀ w ∈ ws, 1 ≤ w := by
  unfold wok
  simp only [List.all_eq_true, decide_eq_true_eq]
theorem sum_nn {ws : List Int} (h : ∀ w ∈ ws, 0 ≤ w) : 0 ≤ ws.sum := by
  induction ws with
  | nil => exact Int.le_refl 0
  | cons w r ih =>
    rw [List.sum_cons]
    have := h w List.mem_cons_self
    have := ih fun x hx => h x (List.mem_cons_of_mem _ hx)
    omega
theorem snoc_ind {α : Type} {P : List α → Prop} (h0 : P []) (hs : ∀ l x, P l → P (l ++ [x])) : ∀ l, P l := by
  intro l
  have : ∀ n, ∀ l : List α, l.length = n → P l := by
    intro n
    induction n with
    | zero =>
      intro l hl
      rw [List.eq_nil_of_length_eq_zero hl]
      exact h0
    | succ n ih =>
      intro l hl
      have hne : l ≠ [] := by
        intro e
        rw [e] at hl
        cases hl
      rw [← List.dropLast_concat_getLast hne]
      exact hs _ _ (ih _ (by rw [List.length_dropLast]; omega))
  exact this _ l rfl
theorem rowP_bound : ∀ ps : List (Int × Int), ps.all okP = true → 0 ≤ rowP ps ∧ rowP ps < 2 ^ (ps.map Prod.fst).sum.toNat := by
  refine snoc_ind ?_ ?_
  · intro _
    exact ⟨Int.le_refl 0, by decide⟩
  · intro ps p ih h
    rw [List.all_append, Bool.and_eq_true] at h
    obtain ⟨h1, h2⟩ := h
    have hp : okP p = true := by simpa using h2
    obtain ⟨a, b, c⟩ := okP_iff.mp hp
    obtain ⟨i1, i2⟩ := ih h1
    have hs : 0 ≤ (ps.map Prod.fst).sum := sum_nn fun w hw => by
      obtain ⟨q, hq, rfl⟩ := List.mem_map.mp hw
      have := okP_iff.mp (List.all_eq_true.mp h1 q hq)
      omega
    rw [rowP_snoc, List.map_append, List.sum_append]
    have e : ((ps.map Prod.fst).sum + ([p].map Prod.fst).sum).toNat = (ps.map Prod.fst).sum.toNat + p.1.toNat := by
      have : ([p].map Prod.fst).sum = p.1 := by simp
      rw [this]
      omega
    rw [e, pow_add2]
    have hw := pow_nn p.1.toNat
    refine ⟨Int.add_nonneg (Int.mul_nonneg i1 (Int.le_of_lt hw)) b, ?_⟩
    have : rowP ps * 2 ^ p.1.toNat ≤ (2 ^ (ps.map Prod.fst).sum.toNat - 1) * 2 ^ p.1.toNat := Int.mul_le_mul_of_nonneg_right (by omega) (Int.le_of_lt hw)
    rw [Int.sub_mul, Int.one_mul] at this
    omega
theorem num256_bound : ∀ ds : List Int, (∀ d ∈ ds, 0 ≤ d ∧ d < 256) → 0 ≤ num256 ds ∧ num256 ds < 2 ^ (8 * ds.length) := by
  refine snoc_ind ?_ ?_
  · intro _
    exact ⟨Int.le_refl 0, by decide⟩
  · intro ds d ih h
    obtain ⟨i1, i2⟩ := ih fun x hx => h x (List.mem_append_left _ hx)
    obtain ⟨a, b⟩ := h d (List.mem_append_right _ List.mem_cons_self)
    rw [num256_snoc, List.length_append, List.length_singleton, Nat.mul_add, pow_add2]
    have e : (2 : Int) ^ (8 * 1) = 256 := by decide
    have e2 : (2 : Int) ^ 8 = 256 := by decide
    rw [e]
    omega
/-- one number cut into bytes, read again -/
theorem bytes_split (R : Int) (n : Nat) : ∀ i, i ≤ n → num256 ((List.range i).map (byteAt R n)) = R / 2 ^ (8 * (n - i)) % 2 ^ (8 * i) := by
  intro i
  induction i with
  | zero =>
    intro _
    show (0 : Int) = _ % 2 ^ (8 * 0)
    simp
  | succ i ih =>
    intro hi
    have h1 := ih (by omega)
    rw [List.range_succ, List.map_append, List.map_singleton, num256_snoc, h1]
    unfold byteAt
    have e1 : (8 * ((n : Int) - 1 - (i : Int))).toNat = 8 * (n - (i + 1)) := by omega
    rw [e1]
    have e2 : 8 * (n - i) = 8 * (n - (i + 1)) + 8 := by omega
    rw [e2, pow_add2, ← Int.ediv_ediv_of_nonneg (Int.le_of_lt (pow_nn _))]
    generalize R / 2 ^ (8 * (n - (i + 1))) = x
    have e3 : 8 * (i + 1) = 8 * i + 8 := by omega
    rw [e3, pow_add2]
    have e4 : (2 : Int) ^ 8 = 256 := by decide
    rw [e4]
    generalize hM : (2 : Int) ^ (8 * i) = M
    have hM0 : 0 < M := by rw [← hM]; exact pow_nn _
    have k := Int.emod_nonneg x (show M * 256 ≠ 0 by omega)
    have q1 := Int.mul_ediv_add_emod x (M * 256)
    have q2 := Int.mul_ediv_add_emod (x / 256) M
    have q3 := Int.mul_ediv_add_emod x 256
    have b2 := Int.emod_nonneg (x / 256) (show M ≠ 0 by omega)
    have b2' := Int.emod_lt_of_pos (x / 256) hM0
    have b3 := Int.emod_nonneg x (show (256 : Int) ≠ 0 by omega)
    have b3' := Int.emod_lt_of_pos x (show (0 : Int) < 256 by omega)
    have ed : x / (M * 256) = x / 256 / M := by
      rw [Int.mul_comm M 256, Int.ediv_ediv_of_nonneg (by decide)]
    rw [ed] at q1
    generalize hy : x / 256 / M = y at *
    have e5 : M * 256 * y = 256 * (M * y) := by rw [Int.mul_comm M 256, Int.mul_assoc]
    rw [e5] at q1
    omega
theorem bytes_num {R : Int} {n : Nat} (h0 : 0 ≤ R) (h1 : R < 2 ^ (8 * n)) : num256 (bytesOf R n) = R := by
  have e := bytes_split R n n (Nat.le_refl n)
  unfold bytesOf
  rw [e, Nat.sub_self, Nat.mul_zero, Int.pow_zero, Int.ediv_one]
  exact Int.emod_eq_of_lt h0 h1
theorem byteAt_bound (R : Int) (n i : Nat) : 0 ≤ byteAt R n i ∧ byteAt R n i < 256 := by
  unfold byteAt
  omega
theorem bytesOf_length (R : Int) (n : Nat) : (bytesOf R n).length = n := by
  unfold bytesOf
  rw [List.length_map, List.length_range]
/-- the fields read again -/
theorem fld_back : ∀ (ps : List (Int × Int)) (A : Int) (pad : Nat), ps.all okP = true → 0 ≤ A →
    fldF ((A * 2 ^ (ps.map Prod.fst).sum.toNat + rowP ps) * 2 ^ pad) ((ps.map Prod.fst).sum + pad) (ps.map Prod.fst) = ps.map Prod.snd := by
  intro ps
  induction ps with
  | nil => intro A pad _ _; rfl
  | cons p r ih =>
    intro A pad h hA
    rw [List.all_cons, Bool.and_eq_true] at h
    obtain ⟨hp, hr⟩ := h
    obtain ⟨a, b, c⟩ := okP_iff.mp hp
    have hs : 0 ≤ (r.map Prod.fst).sum := sum_nn fun w hw => by
      obtain ⟨q, hq, rfl⟩ := List.mem_map.mp hw
      have := okP_iff.mp (List.all_eq_true.mp hr q hq)
      omega
    -- rowP (p :: r) = p.2 * 2^S + rowP r
    have hrow : ∀ (l : List (Int × Int)) (z : Int), l.all okP = true → l.foldl (fun r p => r * 2 ^ p.1.toNat + p.2) z = z * 2 ^ (l.map Prod.fst).sum.toNat + rowP l := by
      intro l
      induction l with
      | nil =>
        intro z _
        show z = z * 2 ^ (0 : Int).toNat + 0
        simp
      | cons q t ih2 =>
        intro z hl
        rw [List.all_cons, Bool.and_eq_true] at hl
        obtain ⟨hq, ht⟩ := hl
        have hq1 := okP_iff.mp hq
        have ht0 : 0 ≤ (t.map Prod.fst).sum := sum_nn fun w hw => by
          obtain ⟨q, hq, rfl⟩ := List.mem_map.mp hw
          have := okP_iff.mp (List.all_eq_true.mp ht q hq)
          omega
        rw [List.foldl_cons, ih2 _ ht]
        show _ = z * 2 ^ (q.1 + (t.map Prod.fst).sum).toNat + List.foldl _ (0 * 2 ^ q.1.toNat + q.2) t
        rw [ih2 _ ht]
        have e : (q.1 + (t.map Prod.fst).sum).toNat = q.1.toNat + (t.map Prod.fst).sum.toNat := by omega
        rw [e, pow_add2, Int.zero_mul, Int.zero_add, Int.add_mul, Int.mul_assoc]
        omega
    have e1 : rowP (p :: r) = p.2 * 2 ^ (r.map Prod.fst).sum.toNat + rowP r := by
      show List.foldl _ (0 * 2 ^ p.1.toNat + p.2) r = _
      rw [hrow r _ hr, Int.zero_mul, Int.zero_add]
    have e2 : ((p :: r).map Prod.fst).sum = p.1 + (r.map Prod.fst).sum := by simp
    rw [e1, e2]
    have e3 : (p.1 + (r.map Prod.fst).sum).toNat = p.1.toNat + (r.map Prod.fst).sum.toNat := by omega
    rw [e3, pow_add2]
    obtain ⟨r1, r2⟩ := rowP_bound r hr
    generalize hS : (r.map Prod.fst).sum = S at *
    generalize hR : rowP r = R at *
    have eN : (A * (2 ^ p.1.toNat * 2 ^ S.toNat) + (p.2 * 2 ^ S.toNat + R)) = (A * 2 ^ p.1.toNat + p.2) * 2 ^ S.toNat + R := by
      rw [Int.add_mul, Int.mul_assoc]
      omega
    rw [eN]
    show fldF _ _ (p.1 :: r.map Prod.fst) = p.2 :: r.map Prod.snd
    show _ :: _ = _
    have eu : p.1 + S + (pad : Int) - p.1 = S + pad := by omega
    rw [eu, ih (A * 2 ^ p.1.toNat + p.2) pad hr (Int.add_nonneg (Int.mul_nonneg hA (Int.le_of_lt (pow_nn _))) b)]
    congr 1
    have e4 : (S + (pad : Int)).toNat = S.toNat + pad := by omega
    rw [e4, pow_add2, Int.mul_ediv_mul_of_pos_left _ _ (pow_nn pad)]
    rw [Int.add_comm (_ * 2 ^ S.toNat) R, Int.add_mul_ediv_right _ _ (Int.ne_of_gt (pow_nn S.toNat)), Int.ediv_eq_zero_of_lt r1 r2, Int.zero_add, Int.add_comm, Int.add_mul_emod_self_right]
    exact Int.emod_eq_of_lt b c
theorem zip_fst {ws vs : List Int} (h : ws.length = vs.length) : (ws.zip vs).map Prod.fst = ws := List.map_fst_zip (by omega)
theorem zip_snd {ws vs : List Int} (h : ws.length = vs.length) : (ws.zip vs).map Prod.snd = vs := List.map_snd_zip (by omega)
theorem okF_wok {ws vs : List Int} (h : okF ws vs = true) : wok ws = true := by
  unfold okF at h
  rw [Bool.and_eq_true, decide_eq_true_eq] at h
  rw [wok_iff, ← zip_fst h.1]
  intro w hw
  obtain ⟨q, hq, rfl⟩ := List.mem_map.mp hw
  exact (okP_iff.mp (List.all_eq_true.mp h.2 q hq)).1
/-- what was packed is read again, whatever stands behind -/
theorem unp_pack {ws vs es : List Int} (h : okF ws vs = true) : unpF ws (packF ws vs ++ es) = vs := by
  have hw := okF_wok h
  unfold okF at h
  rw [Bool.and_eq_true, decide_eq_true_eq] at h
  obtain ⟨hl, hp⟩ := h
  have hs : 0 ≤ ws.sum := sum_nn fun w hw' => by
    have := wok_iff.mp hw w hw'
    omega
  obtain ⟨b1, b2⟩ := rowP_bound _ hp
  rw [zip_fst hl] at b2
  have hz : 0 ≤ sizeF ws := by unfold sizeF; omega
  unfold unpF
  have e1 : (packF ws vs ++ es).take (sizeF ws).toNat = packF ws vs := by
    have : (packF ws vs).length = (sizeF ws).toNat := bytesOf_length _ _
    rw [List.take_append_of_le_length (by omega), List.take_of_length_le (by omega)]
  rw [e1]
  have hpad : 0 ≤ 8 * sizeF ws - ws.sum := by unfold sizeF; omega
  have e2 : num256 (packF ws vs) = rowP (ws.zip vs) * 2 ^ (8 * sizeF ws - ws.sum).toNat := by
    refine bytes_num (Int.mul_nonneg b1 (Int.le_of_lt (pow_nn _))) ?_
    have e3 : 8 * (sizeF ws).toNat = ws.sum.toNat + (8 * sizeF ws - ws.sum).toNat := by omega
    rw [e3, pow_add2]
    exact Int.mul_lt_mul_of_pos_right b2 (pow_nn _)
  rw [e2]
  have k := fld_back (ws.zip vs) 0 (8 * sizeF ws - ws.sum).toNat hp (Int.le_refl 0)
  rw [zip_fst hl, zip_snd hl, Int.zero_mul, Int.zero_add] at k
  have e4 : ws.sum + ((8 * sizeF ws - ws.sum).toNat : Int) = 8 * sizeF ws := by omega
  rw [e4] at k
  exact k
theorem take_all {α : Type} {l : List α} {i : Nat} {x : α} {f : α → Bool} (h : (l.take i).all f = true) (hx : l[i]? = some x) (hf : f x = true) : (l.take (i + 1)).all f = true := by
  rw [take_snoc hx, List.all_append, h]
  simp [hf]
theorem take_all_full {α : Type} {l : List α} {f : α → Bool} {i : Nat} (hi : l.length ≤ i) (h : (l.take i).all f = true) : l.all f = true := by
  rw [List.take_of_length_le hi] at h
  exact h
theorem not_all {α : Type} {l : List α} {i : Nat} {x : α} {f : α → Bool} (hx : l[i]? = some x) (hf : f x = false) : l.all f = false := by
  cases e : l.all f with
  | false => rfl
  | true =>
    rw [List.all_eq_true.mp e x (List.mem_of_getElem? hx)] at hf
    cases hf
theorem map_get {ns : List Int} {i : Nat} {y : V} (h : (ns.map V.int)[i]? = some y) : ∃ x, ns[i]? = some x ∧ y = .int x := by
  rw [List.getElem?_map] at h
  cases e : ns[i]? with
  | none => rw [e] at h; cases h
  | some x => rw [e] at h; exact ⟨x, rfl, (Option.some.inj h).symm⟩
section
variable {P : Program} {w : World} {K : PySem.W.Frag} {mg : Str → Option Value} {base : Heap}
def sp_field_bytes (K : PySem.W.Frag) (C : Addr) : Sp := fun vs H Q E => ∃ (a : Addr) (ws : List Int), vs = [.ref a] ∧ SqL K H a (ws.map V.int) ∧ (wok ws = true → Q (.int (sizeF ws)) H) ∧ (wok ws = false → E (.ref C) none H)
@[irreducible] def ip_field_bytes (K : PySem.W.Frag) (C : Addr) : Sp := sp_field_bytes K C
theorem op_field_bytes {K : PySem.W.Frag} {C : Addr} {vs : List V} {H : Hp} {Q : VK} {E : XK} (h : sp_field_bytes K C vs H Q E) : ip_field_bytes K C vs H Q E := by
  unfold ip_field_bytes
  exact h
theorem un_field_bytes {K : PySem.W.Frag} {C : Addr} {vs : List V} {H : Hp} {Q : VK} {E : XK} (h : ip_field_bytes K C vs H Q E) : sp_field_bytes K C vs H Q E := by
  unfold ip_field_bytes at h
  exact h
theorem ok_field_bytes (T : Tx P w K mg base) : FnOk P w K mg base (L2.CX P w) 3 T.a_field_bytes T.d_field_bytes ["widths"] (ip_field_bytes K T.C_NotValid) := by
  refine T.p_field_bytes.F.okX sc_field_bytes (fun vs H Q E h => ?_) (fun cdv A outer s H vs Q E hr h => ?_)
  · obtain ⟨a, ws, rfl, hS, q, e⟩ := un_field_bytes h
    rfl
  · obtain ⟨a, ws, rfl, hS, q, e⟩ := un_field_bytes h
    refine ⟨_, (pss_cons (ps_forL (passes_of rfl) rfl (pv 0) (pg_name (i := 1) sc_field_bytes.nd rfl (Or.inl rfl)) (pss_one (ps_ifM (pt_cmpR op_ltM (pv 1) pe_int (nomark _)) (pss_one (ps_raise rfl (takes_of rfl rfl rfl rfl) (pmk_plain T.x_NotValid (hr.mono (by decide)) rfl))) pss_nil))) (pss_one (ps_ret (pe_op op_fdivM (pe_op op_addM (pe_callB (call_sumM rfl) (by rfl) T.n_sum (by decide +kernel) (pa_cons (pv 0) pa_nil)) pe_int) pe_int)))), ?_⟩
    refine rd_forL ?_
    (repeat walk_at "rd")
    refine ⟨a, _, fun i σ H' => Stop (H' = H ∧ wok (ws.take i) = true ∧ ∃ v, σ = [some (.ref a), v]), rfl, hS, .a ⟨rfl, rfl, none, rfl⟩, fun i σ' H' hi p => ?_, fun i y σ' H' hi p => ?_, fun σ' H' p => ?_⟩
    · obtain ⟨rfl, _⟩ := p.un
      exact hS
    · obtain ⟨rfl, hw, v, rfl⟩ := p.un
      obtain ⟨x, hx, rfl⟩ := map_get hi
      (repeat walk_at "rd")
      refine br_by (fun h => ?_) (fun h => ?_)
      · exact e (not_all hx (decide_eq_false (by omega)))
      · exact .a ⟨rfl, take_all hw hx (decide_eq_true (by omega)), some (.int x), rfl⟩
    · obtain ⟨rfl, hw, v, rfl⟩ := p.un
      rw [List.length_map, List.take_length] at hw
      (repeat walk_at "rd")
      exact q hw
def sp_pack (K : PySem.W.Frag) (C : Addr) : Sp := fun as H Q E => ∃ (a b : Addr) (ws vs : List Int), as = [.ref a, .ref b] ∧ SqL K H a (ws.map V.int) ∧ SqL K H b (vs.map V.int) ∧ ws.length ≤ 500 ∧ (∀ w ∈ ws, w ≤ 1000) ∧
  (okF ws vs = true → NewO (.lst ((packF ws vs).map V.int)) H Q) ∧ (okF ws vs = false → ∀ H', Same H H' → E (.ref C) none H')
theorem sum_le {ws : List Int} (h : ∀ w ∈ ws, w ≤ 1000) : ws.sum ≤ 1000 * (ws.length : Int) := by
  induction ws with
  | nil => exact Int.le_refl 0
  | cons w r ih =>
    rw [List.sum_cons, List.length_cons]
    have := h w List.mem_cons_self
    have := ih fun x hx => h x (List.mem_cons_of_mem _ hx)
    omega
theorem shl_of {i : Int} {j : Int} {n : Nat} (h0 : 0 ≤ i) (h : i < 2 ^ n) (hj : 0 ≤ j) (hn : (n : Int) + j ≤ 134217728) : CShl i j := by
  have e : j = ((j.toNat : Nat) : Int) := by omega
  rw [e]
  refine shl_ok (n := n) ?_ (by omega)
  have : ((i.natAbs : Nat) : Int) < ((2 ^ n : Nat) : Int) := by
    rw [Int.natCast_pow]
    show (i.natAbs : Int) < 2 ^ n
    omega
  exact Int.ofNat_lt.mp this
theorem okF_false {ws vs : List Int} (h : ws.length ≠ vs.length ∨ (ws.zip vs).all okP = false) : okF ws vs = false := by
  unfold okF
  rcases h with h | h
  · rw [decide_eq_false h]
    rfl
  · rw [h, Bool.and_false]
@[irreducible] def ip_pack (K : PySem.W.Frag) (C : Addr) : Sp := sp_pack K C
theorem op_pack {K : PySem.W.Frag} {C : Addr} {vs : List V} {H : Hp} {Q : VK} {E : XK} (h : sp_pack K C vs H Q E) : ip_pack K C vs H Q E := by
  unfold ip_pack
  exact h
theorem un_pack {K : PySem.W.Frag} {C : Addr} {vs : List V} {H : Hp} {Q : VK} {E : XK} (h : ip_pack K C vs H Q E) : sp_pack K C vs H Q E := by
  unfold ip_pack at h
  exact h
theorem ok_pack (T : Tx P w K mg base) : FnOk P w K mg base (L2.CX P w) 4 T.a_pack T.d_pack ["widths", "values"] (ip_pack K T.C_NotValid) := by
  have G_field_bytes := ok_field_bytes T
  refine T.p_pack.F.okX sc_pack (fun vs H Q E h => ?_) (fun cdv A outer s H vs Q E hr h => ?_)
  · obtain ⟨a, b, ws, vs, rfl, hS, hT, hn, hw, q, e⟩ := un_pack h
    rfl
  · obtain ⟨a, b, ws, vs, rfl, hS, hT, hn, hw, q, e⟩ := un_pack h
    refine ⟨_, (pss_cons (ps_ifM (pt_cmpR op_ne (pe_callB call_lenM (by rfl) T.n_len PySem.boot_len (pa_cons (pv 0) pa_nil)) (pe_callB call_lenM (by rfl) T.n_len PySem.boot_len (pa_cons (pv 1) pa_nil)) (nomark _)) (pss_one (ps_raise rfl (takes_of rfl rfl rfl rfl) (pmk_plain T.x_NotValid (hr.mono (by decide)) rfl))) pss_nil) (pss_cons (ps_set (i := 2) sc_pack.nd rfl (Or.inr rfl) (pe_call G_field_bytes (hr.mono (by decide)) rfl T.p_field_bytes.m T.p_field_bytes.F.kp T.p_field_bytes.b .nil (passes_call (takes_of rfl rfl rfl rfl) (fun _ _ _ _ h => h)) (pa_cons (pv 0) pa_nil))) (pss_cons (ps_set (i := 3) sc_pack.nd rfl (Or.inr rfl) pe_int) (pss_cons (ps_forZ (passes_of rfl) rfl rfl T.n_zip (pa_cons (pv 0) (pa_cons (pv 1) pa_nil)) (pg_tup rfl (pgs_cons (pg_name (i := 4) sc_pack.nd rfl (Or.inl rfl)) (pgs_cons (pg_name (i := 5) sc_pack.nd rfl (Or.inl rfl)) pgs_nil))) (pss_cons (ps_ifM (PW.pt (pw_orM (pt_cmpR op_ltM (pv 5) pe_int (nomark _)) (pw_or1 (pt_cmpR op_geM (pv 5) (pe_op op_shl1M pe_int (pv 4)) (nomark _))))) (pss_one (ps_raise rfl (takes_of rfl rfl rfl rfl) (pmk_plain T.x_NotValid (hr.mono (by decide)) rfl))) pss_nil) (pss_one (ps_set (i := 3) sc_pack.nd rfl (Or.inr rfl) (pe_op op_addM (pe_op op_shlM (pv 3) (pv 4)) (pv 5)))))) (pss_cons (ps_set (i := 3) sc_pack.nd rfl (Or.inr rfl) (pe_op op_shlM (pv 3) (pe_op op_subM (pe_op op_mulM pe_int (pv 2)) (pe_callB (call_sumM rfl) (by rfl) T.n_sum (by decide +kernel) (pa_cons (pv 0) pa_nil))))) (pss_one (ps_ret (pe_lcR1 rfl sc_pack.nd rfl T.n_range (pa_cons (pv 2) pa_nil) (blkOk_by (own := [("at", 6)]) (N := ["widths", "values", "size", "row", "width", "value", "at"]) (sc := defScope S_pack) (by decide +kernel)) (fun _ _ _ _ _ => (pg_name (i := 6) sc_pack.nd rfl (Or.inl rfl))) (fun _ _ _ _ _ => (pe_op op_bandM (pe_op op_shrM (pv 3) (pe_op op_mulM pe_int (pe_op op_subM (pe_op op_subM (pv 2) pe_int) (pv 6)))) pe_int)))))))))), ?_⟩
    (repeat walk_at "rd")
    refine br_enby (fun h => ?_) (fun h => ?_)
    · exact e (okF_false (.inl (by omega))) _ (Same.refl _)
    (repeat walk_at "rd")
    refine op_field_bytes ⟨a, ws, rfl, hS, fun hwk => ?_, fun hwk => ?_⟩
    rotate_left
    · refine e ?_ _ (Same.refl _)
      cases k : okF ws vs with
      | false => rfl
      | true => rw [okF_wok k] at hwk; cases hwk
    (repeat walk_at "rd")
    refine rd_forZ ?_
    (repeat walk_at "rd")
    have hl : ws.length = vs.length := by omega
    have hsum := sum_le hw
    have hs0 : 0 ≤ ws.sum := sum_nn fun w hw' => by
      have := wok_iff.mp hwk w hw'
      omega
    have hsz : 0 ≤ sizeF ws ∧ ws.sum ≤ 8 * sizeF ws ∧ 8 * sizeF ws ≤ ws.sum + 7 := by unfold sizeF; omega
    have zl : (ws.zip vs).length = ws.length := by rw [List.length_zip]; omega
    refine ⟨a, b, _, _, fun i σ H' => Stop (Same H H' ∧ ((ws.zip vs).take i).all okP = true ∧ ∃ x y z, σ = [some (.ref a), some (.ref b), some (.int (sizeF ws)), some (.int (rowP ((ws.zip vs).take i))), x, y, z]), rfl, hS, hT, by rw [List.length_map, List.length_map, hl], .a ⟨Same.refl _, rfl, _, _, _, rfl⟩, fun i σ' H' p => ?_, fun i x y σ' H' H'' hx hy p s2 => ?_, fun σ' H' p => ?_⟩
    · obtain ⟨sm, _⟩ := p.un
      exact ⟨sm.seq hS, sm.seq hT⟩
    · obtain ⟨sm, hok, x1, y1, z1, rfl⟩ := p.un
      obtain ⟨wd, hwd, rfl⟩ := map_get hx
      obtain ⟨vl, hvl, rfl⟩ := map_get hy
      have hz : (ws.zip vs)[i]? = some (wd, vl) := by rw [List.getElem?_zip_eq_some]; exact ⟨hwd, hvl⟩
      have hw1 := wok_iff.mp hwk wd (List.mem_of_getElem? hwd)
      have hw2 := hw wd (List.mem_of_getElem? hwd)
      obtain ⟨b1, b2⟩ := rowP_bound _ hok
      have hbig : (List.map Prod.fst ((ws.zip vs).take i)).sum.toNat ≤ 1000000 := by
        rw [List.map_take, zip_fst hl]
        have h1 := sum_le (ws := ws.take i) fun w h => hw w (List.mem_of_mem_take h)
        rw [List.length_take] at h1
        omega
      (repeat walk_at "rd")
      refine br_by (fun h1 => ?_) (fun h1 => ?_)
      · (repeat walk_at "rd")
        exact e (okF_false (.inr (not_all hz (by unfold okP; rw [decide_eq_false (show ¬ 0 ≤ (wd, vl).2 from by show ¬ 0 ≤ vl; omega), Bool.and_false]; rfl)))) _ (sm.trans s2)
      (repeat walk_at "rd")
      refine br_by (fun h2 => ?_) (fun h2 => ?_)
      · (repeat walk_at "rd")
        exact e (okF_false (.inr (not_all hz (by unfold okP; rw [decide_eq_false (show ¬ (wd, vl).2 < 2 ^ (wd, vl).1.toNat from by show ¬ vl < 2 ^ wd.toNat; omega), Bool.and_false])))) _ (sm.trans s2)
      (repeat walk_at "rd")
      refine ⟨shl_of b1 b2 (by omega) (by omega), ?_⟩
      (repeat walk_at "rd")
      refine .a ⟨sm.trans s2, take_all hok hz (okP_iff.mpr ⟨hw1, by show 0 ≤ vl; omega, by show vl < 2 ^ wd.toNat; omega⟩), _, _, _, by rw [take_snoc hz, rowP_snoc]; rfl⟩
    · obtain ⟨sm, hok, x1, y1, z1, rfl⟩ := p.un
      rw [List.length_map, ← zl, List.take_length] at hok ⊢
      have hokF : okF ws vs = true := by unfold okF; rw [decide_eq_true hl, hok]; rfl
      obtain ⟨b1, b2⟩ := rowP_bound _ hok
      rw [zip_fst hl] at b2
      (repeat walk_at "rd")
      refine ⟨shl_of b1 b2 (by omega) (by omega), ?_⟩
      (repeat walk_at "rd")
      refine rd_lcR1 ?_
      (repeat walk_at "rd")
      refine ⟨_, fun i => V.int (byteAt (rowP (ws.zip vs) * 2 ^ (8 * sizeF ws - ws.sum).toNat) (sizeF ws).toNat i), rfl, ⟨by omega, by omega⟩, fun i hi H1 s1 => ?_, fun p H1 hp s1 e1 => ?_⟩
      · (repeat walk_at "rd")
        refine ⟨?_, Same.refl _⟩
        have e1 : (255 : Int) = 2 ^ 8 - 1 := by decide
        rw [e1, Bits.bitAnd_mask _ (Int.ediv_nonneg (Int.mul_nonneg b1 (Int.le_of_lt (pow_nn _))) (Int.le_of_lt (pow_nn _)))]
        have e2 : ((sizeF ws).toNat : Int) = sizeF ws := by omega
        show V.int _ = V.int (byteAt _ _ _)
        unfold byteAt
        rw [e2]
        rfl
      · refine q hokF p H1 (sm.free hp) (sm.trans s1) ?_
        rw [e1]
        unfold packF bytesOf
        rw [List.map_map]
        rfl
def unpOk (ws ds : List Int) : Bool := wok ws && decide (sizeF ws ≤ (ds.length : Int))
def sp_unpack (K : PySem.W.Frag) (C : Addr) : Sp := fun as H Q E => ∃ (a b : Addr) (ws ds : List Int), as = [.ref a, .ref b] ∧ SqL K H a (ws.map V.int) ∧ SqL K H b (ds.map V.int) ∧ ws.length ≤ 500 ∧ (∀ w ∈ ws, w ≤ 1000) ∧ (∀ d ∈ ds, 0 ≤ d ∧ d < 256) ∧
  (unpOk ws ds = true → NewO (.lst ((unpF ws ds).map V.int)) H Q) ∧ (unpOk ws ds = false → ∀ H', Same H H' → E (.ref C) none H')
theorem cutV_to {ds : List Int} {k : Int} (h0 : 0 ≤ k) : cutV (ds.map V.int) none (some k) = (ds.take k.toNat).map V.int := by
  unfold cutV
  rw [HT.sIx_none]
  have e : k = ((k.toNat : Nat) : Int) := by omega
  rw [e, HT.sIx_nat, List.drop_zero, Nat.sub_zero, List.length_map, ← List.map_take]
  congr 1
  rw [Int.toNat_natCast]
  by_cases h : k.toNat ≤ ds.length
  · rw [Nat.min_eq_left h]
  · rw [Nat.min_eq_right (by omega), List.take_of_length_le (Nat.le_refl _), List.take_of_length_le (by omega)]
theorem fldF_snoc (N : Int) : ∀ (ws : List Int) (u w : Int), fldF N u (ws ++ [w]) = fldF N u ws ++ [N / 2 ^ (u - ws.sum - w).toNat % 2 ^ w.toNat]
  | [], u, w => by
    show [N / 2 ^ (u - w).toNat % 2 ^ w.toNat] = [] ++ [N / 2 ^ (u - 0 - w).toNat % 2 ^ w.toNat]
    rw [Int.sub_zero]
    rfl
  | x :: r, u, w => by
    show _ :: fldF N (u - x) (r ++ [w]) = _ :: fldF N (u - x) r ++ _
    rw [fldF_snoc N r, List.sum_cons]
    have e : u - x - r.sum - w = u - (x + r.sum) - w := by omega
    rw [e]
    rfl
theorem fldF_len (N : Int) : ∀ (ws : List Int) (u : Int), (fldF N u ws).length = ws.length
  | [], _ => rfl
  | x :: r, u => by
    show (fldF N (u - x) r).length + 1 = r.length + 1
    rw [fldF_len N r]
@[irreducible] def ip_unpack (K : PySem.W.Frag) (C : Addr) : Sp := sp_unpack K C
theorem op_unpack {K : PySem.W.Frag} {C : Addr} {vs : List V} {H : Hp} {Q : VK} {E : XK} (h : sp_unpack K C vs H Q E) : ip_unpack K C vs H Q E := by
  unfold ip_unpack
  exact h
theorem un_unpack {K : PySem.W.Frag} {C : Addr} {vs : List V} {H : Hp} {Q : VK} {E : XK} (h : ip_unpack K C vs H Q E) : sp_unpack K C vs H Q E := by
  unfold ip_unpack at h
  exact h
theorem ok_unpack (T : Tx P w K mg base) : FnOk P w K mg base (L2.CX P w) 4 T.a_unpack T.d_unpack ["widths", "data"] (ip_unpack K T.C_NotValid) := by
  have G_field_bytes := ok_field_bytes T
  refine T.p_unpack.F.okX sc_unpack (fun vs H Q E h => ?_) (fun cdv A outer s H vs Q E hr h => ?_)
  · obtain ⟨a, b, ws, ds, rfl, hS, hT, hn, hw, hd, q, e⟩ := un_unpack h
    rfl
  · obtain ⟨a, b, ws, ds, rfl, hS, hT, hn, hw, hd, q, e⟩ := un_unpack h
    refine ⟨_, (pss_cons (ps_set (i := 2) sc_unpack.nd rfl (Or.inl rfl) (pe_call G_field_bytes (hr.mono (by decide)) rfl T.p_field_bytes.m T.p_field_bytes.F.kp T.p_field_bytes.b .nil (passes_call (takes_of rfl rfl rfl rfl) (fun _ _ _ _ h => h)) (pa_cons (pv 0) pa_nil))) (pss_cons (ps_ifM (pt_cmpR op_ltM (pe_callB call_lenM (by rfl) T.n_len PySem.boot_len (pa_cons (pv 1) pa_nil)) (pv 2) (nomark _)) (pss_one (ps_raise rfl (takes_of rfl rfl rfl rfl) (pmk_plain T.x_NotValid (hr.mono (by decide)) rfl))) pss_nil) (pss_cons (ps_set (i := 3) sc_unpack.nd rfl (Or.inl rfl) pe_int) (pss_cons (ps_forL (passes_of rfl) rfl (pe_slice sl_listM (pv 1) po_none (po_some (pv 2))) (pg_name (i := 4) sc_unpack.nd rfl (Or.inl rfl)) (pss_one (ps_set (i := 3) sc_unpack.nd rfl (Or.inl rfl) (pe_op op_addM (pe_op op_shlM (pv 3) pe_int) (pv 4))))) (pss_cons (ps_set (i := 5) sc_unpack.nd rfl (Or.inl rfl) (pe_op op_mulM pe_int (pv 2))) (pss_cons (ps_set (i := 6) sc_unpack.nd rfl (Or.inl rfl) (pe_lstM pa_nil)) (pss_cons (ps_forL (passes_of rfl) rfl (pv 0) (pg_name (i := 7) sc_unpack.nd rfl (Or.inl rfl)) (pss_cons (ps_set (i := 5) sc_unpack.nd rfl (Or.inl rfl) (pe_op op_subM (pv 5) (pv 7))) (pss_one (ps_expr (pe_app (pv 6) (pe_op op_bandM (pe_op op_shrM (pv 3) (pv 5)) (pe_op op_subM (pe_op op_shl1M pe_int (pv 7)) pe_int))))))) (pss_one (ps_ret (pv 6)))))))))), ?_⟩
    (repeat walk_at "rd")
    refine op_field_bytes ⟨a, ws, rfl, hS, fun hwk => ?_, fun hwk => ?_⟩
    rotate_left
    · refine e ?_ _ (Same.refl _)
      unfold unpOk
      rw [hwk]
      rfl
    (repeat walk_at "rd")
    refine br_by (fun h => ?_) (fun h => ?_)
    · (repeat walk_at "rd")
      refine e ?_ _ (Same.refl _)
      unfold unpOk
      rw [decide_eq_false (by omega), Bool.and_false]
    have hsum := sum_le hw
    have hs0 : 0 ≤ ws.sum := sum_nn fun w hw' => by
      have := wok_iff.mp hwk w hw'
      omega
    have hsz : 0 ≤ sizeF ws ∧ ws.sum ≤ 8 * sizeF ws ∧ 8 * sizeF ws ≤ ws.sum + 7 := by unfold sizeF; omega
    (repeat walk_at "rd")
    refine rd_forL ?_
    (repeat walk_at "rd")
    refine rd_sl hT ?_
    rw [cutV_to hsz.1]
    intro p H1 np s1 e1
    generalize hpre : ds.take (sizeF ws).toNat = pre at e1
    have hb : ∀ d ∈ pre, 0 ≤ d ∧ d < 256 := fun d h => hd d (by rw [← hpre] at h; exact List.mem_of_mem_take h)
    have hlen : (pre.length : Int) = sizeF ws := by
      rw [← hpre, List.length_take]
      omega
    refine ⟨p, _, fun i σ H' => Stop (H' = H1 ∧ ∃ x y z u, σ = [some (.ref a), some (.ref b), some (.int (sizeF ws)), some (.int (num256 (pre.take i))), x, y, z, u]), rfl, sq_of e1, .a ⟨rfl, _, _, _, _, rfl⟩, fun i σ' H' hi p => ?_, fun i y σ' H' hi p => ?_, fun σ' H' p => ?_⟩
    · obtain ⟨rfl, _⟩ := p.un
      exact sq_of e1
    · obtain ⟨rfl, x1, y1, z1, u1, rfl⟩ := p.un
      obtain ⟨d, hx, rfl⟩ := map_get hi
      have hi2 := (List.getElem?_eq_some_iff.mp hx).1
      obtain ⟨b1, b2⟩ := num256_bound (pre.take i) fun d h => hb d (List.mem_of_mem_take h)
      rw [List.length_take] at b2
      (repeat walk_at "rd")
      refine ⟨shl_of b1 b2 (by decide) (by omega), ?_⟩
      (repeat walk_at "rd")
      exact .a ⟨rfl, _, _, _, _, by rw [take_snoc hx, num256_snoc]; rfl⟩
    · obtain ⟨rfl, x1, y1, z1, u1, rfl⟩ := p.un
      rw [List.length_map, List.take_length]
      obtain ⟨b1, b2⟩ := num256_bound pre hb
      generalize hN : num256 pre = N at b1 b2
      (repeat walk_at "rd")
      intro l H2 nl s2 e2
      (repeat walk_at "rd")
      refine rd_forL ?_
      (repeat walk_at "rd")
      have hSS : Same H H2 := s1.trans s2
      refine ⟨a, _, fun i σ H' => Stop (Same H' H' ∧ Same H H' ∧ H' l = some (.lst ((fldF N (8 * sizeF ws) (ws.take i)).map V.int)) ∧ ∃ x y, σ = [some (.ref a), some (.ref b), some (.int (sizeF ws)), some (.int N), x, some (.int (8 * sizeF ws - (ws.take i).sum)), some (.ref l), y]), rfl, hSS.seq hS, .a ⟨Same.refl _, hSS, e2, _, _, by show _ = [_, _, _, _, _, some (V.int (8 * sizeF ws - 0)), _, _]; rw [Int.sub_zero]; rfl⟩, fun i σ' H' hi p => ?_, fun i y σ' H' hi p => ?_, fun σ' H' p => ?_⟩
      · obtain ⟨_, sm, _⟩ := p.un
        exact sm.seq hS
      · obtain ⟨_, sm, el, x2, y2, rfl⟩ := p.un
        obtain ⟨wd, hx, rfl⟩ := map_get hi
        have hi2 := (List.getElem?_eq_some_iff.mp hx).1
        have hw1 := wok_iff.mp hwk wd (List.mem_of_getElem? hx)
        have hw2 := hw wd (List.mem_of_getElem? hx)
        have hsumi : 0 ≤ 8 * sizeF ws - (ws.take i).sum - wd := by
          have h1 : (ws.take (i + 1)).sum = (ws.take i).sum + wd := by
            rw [take_snoc hx, List.sum_append]
            simp
          have h2 : ws.sum = (ws.take (i + 1)).sum + (ws.drop (i + 1)).sum := by
            rw [← List.sum_append, List.take_append_drop]
          have h3 : 0 ≤ (ws.drop (i + 1)).sum := sum_nn fun w h => by
            have := wok_iff.mp hwk w (List.mem_of_mem_drop h)
            omega
          omega
        (repeat walk_at "rd")
        refine rd_app el (by rw [List.length_map, fldF_len, List.length_take]; omega) ?_
        have e5 : Builtin.bitAnd (N / 2 ^ (8 * sizeF ws - (ws.take i).sum - wd).toNat) (2 ^ wd.toNat - 1) = N / 2 ^ (8 * sizeF ws - (ws.take i).sum - wd).toNat % 2 ^ wd.toNat := Bits.bitAnd_mask _ (Int.ediv_nonneg b1 (Int.le_of_lt (pow_nn _)))
        rw [e5]
        have nl0 : H l = none := s1.free nl
        refine .a ⟨Same.refl _, same_mut sm nl0, ?_, _, _, by rw [take_snoc hx, List.sum_append]; show _ = [_, _, _, _, _, some (V.int (8 * sizeF ws - ((ws.take i).sum + ([wd] : List Int).sum))), _, _]; rw [show 8 * sizeF ws - ((ws.take i).sum + ([wd] : List Int).sum) = 8 * sizeF ws - (ws.take i).sum - wd by simp; omega]; rfl⟩
        rw [upd_same, take_snoc hx, fldF_snoc, List.map_append]
        rfl
      · obtain ⟨_, sm, el, x2, y2, rfl⟩ := p.un
        rw [List.length_map, List.take_length] at el
        (repeat walk_at "rd")
        refine q ?_ l H' (s1.free nl) sm ?_
        · unfold unpOk
          rw [hwk, decide_eq_true (by omega)]
          rfl
        · rw [el]
          unfold unpF
          rw [hpre, hN]
def sp_u_law_two (K : PySem.W.Frag) : Sp := fun vs H Q _ => ∃ n : Int, vs = [.int n] ∧ n ≤ 100000 ∧ -100000 ≤ n ∧ Q (.int (2 ^ n.toNat)) H
@[irreducible] def ip_u_law_two (K : PySem.W.Frag) : Sp := sp_u_law_two K
theorem op_u_law_two {K : PySem.W.Frag} {vs : List V} {H : Hp} {Q : VK} {E : XK} (h : sp_u_law_two K vs H Q E) : ip_u_law_two K vs H Q E := by
  unfold ip_u_law_two
  exact h
theorem un_u_law_two {K : PySem.W.Frag} {vs : List V} {H : Hp} {Q : VK} {E : XK} (h : ip_u_law_two K vs H Q E) : sp_u_law_two K vs H Q E := by
  unfold ip_u_law_two at h
  exact h
theorem ok_u_law_two (T : Tx P w K mg base) : FnOk P w K mg base CX0 1 T.a_u_law_two T.d_u_law_two ["many"] (ip_u_law_two K) := by
  refine T.p_u_law_two.F.ok sc_u_law_two (fun vs H Q E h => ?_) (fun cdv A outer s H vs Q E hr h => ?_)
  · obtain ⟨n, rfl, h1, q⟩ := un_u_law_two h
    rfl
  · obtain ⟨n, rfl, h1, q⟩ := un_u_law_two h
    refine ⟨_, (pss_cons (ps_set (i := 1) sc_u_law_two.nd rfl (Or.inl rfl) pe_int) (pss_cons (ps_forR1 PassesOwn.never rfl rfl T.n_range (pa_cons (pv 0) pa_nil) (pg_name (i := 2) sc_u_law_two.nd rfl (Or.inl rfl)) (pss_one (ps_set (i := 1) sc_u_law_two.nd rfl (Or.inl rfl) (pe_op op_mulM pe_int (pv 1))))) (pss_one (ps_ret (pv 1))))), ?_⟩
    obtain ⟨h2, q⟩ := q
    (repeat walk_at "rd")
    refine rd_forR1 ?_
    (repeat walk_at "rd")
    refine ⟨n, fun i σ H' => Stop (H' = H ∧ ∃ v, σ = [some (.int n), some (.int (2 ^ i)), v]), rfl, ⟨h2, h1⟩, .a ⟨rfl, none, rfl⟩, fun i σ' H' hi p => ?_, fun σ' H' p => ?_⟩
    · obtain ⟨rfl, v, rfl⟩ := p.un
      (repeat walk_at "rd")
      refine .a ⟨rfl, some (.int (i : Nat)), ?_⟩
      rw [Int.pow_succ, Int.mul_comm]
      rfl
    · obtain ⟨rfl, v, rfl⟩ := p.un
      (repeat walk_at "rd")
      exact q
/-- all the tape's cells -/
def TapeOk (ns : List Int) : Prop := ∀ x ∈ ns, 0 ≤ x ∧ x < 1000
theorem tape_get {ns : List Int} (h : TapeOk ns) (k : Nat) : 0 ≤ ns.getD k 0 ∧ ns.getD k 0 < 1000 := by
  rw [List.getD_eq_getElem?_getD]
  cases e : ns[k]? with
  | none => exact ⟨Int.le_refl 0, by decide⟩
  | some x => exact h x (List.mem_of_getElem? e)
def sp_u_law_at (K : PySem.W.Frag) : Sp := fun vs H Q _ => ∃ (a : Addr) (ns : List Int) (k : Int), vs = [.ref a, .int k] ∧ SqL K H a (ns.map V.int) ∧ TapeOk ns ∧ 0 ≤ k ∧ (∀ x : Int, 0 ≤ x → x < 1000 → x = ns.getD k.toNat 0 → Q (.int x) H)
@[irreducible] def ip_u_law_at (K : PySem.W.Frag) : Sp := sp_u_law_at K
theorem op_u_law_at {K : PySem.W.Frag} {vs : List V} {H : Hp} {Q : VK} {E : XK} (h : sp_u_law_at K vs H Q E) : ip_u_law_at K vs H Q E := by
  unfold ip_u_law_at
  exact h
theorem un_u_law_at {K : PySem.W.Frag} {vs : List V} {H : Hp} {Q : VK} {E : XK} (h : ip_u_law_at K vs H Q E) : sp_u_law_at K vs H Q E := by
  unfold ip_u_law_at at h
  exact h
theorem ok_u_law_at (T : Tx P w K mg base) : FnOk P w K mg base CX0 1 T.a_u_law_at T.d_u_law_at ["tape", "k"] (ip_u_law_at K) := by
  refine T.p_u_law_at.F.ok sc_u_law_at (fun vs H Q E h => ?_) (fun cdv A outer s H vs Q E hr h => ?_)
  · obtain ⟨a, ns, k, rfl, hS, hn, hk, q⟩ := un_u_law_at h
    rfl
  · obtain ⟨a, ns, k, rfl, hS, hn, hk, q⟩ := un_u_law_at h
    refine ⟨_, (pss_cons (ps_ifM (pt_cmpR op_ltM (pv 1) (pe_callB call_lenM (by rfl) T.n_len PySem.boot_len (pa_cons (pv 0) pa_nil)) (nomark _)) (pss_one (ps_ret (pe_ix ix_listM (pv 0) (pv 1) (fun _ _ => rfl)))) pss_nil) (pss_one (ps_ret pe_int))), ?_⟩
    (repeat walk_at "rd")
    refine br_by (fun h => ?_) (fun h => ?_)
    · (repeat walk_at "rd")
      refine rd_ixI hS hk h ?_
      have hb := tape_get hn k.toNat
      exact q _ hb.1 hb.2 rfl
    · have e : ns.getD k.toNat 0 = 0 := by
        rw [List.getD_eq_getElem?_getD, List.getElem?_eq_none (by omega)]
        rfl
      (repeat walk_at "rd")
      exact q 0 (by decide) (by decide) e.symm
def sp_u_law_tape (K : PySem.W.Frag) : Sp := fun vs H Q _ => ∃ (a : Addr) (ns : List Int), vs = [.ref a] ∧ SqL K H a (ns.map V.int) ∧ ns.length ≤ 63 ∧ (∀ ts : List Int, TapeOk ts → NewO (.lst (ts.map V.int)) H Q)
/-- between two turns: the tape so far -/
structure TapeW (H : Hp) (a p : Addr) (m : Nat) (σ : L2.St) (H' : Hp) : Prop where
  sm : Same H H'
  np : H p = none
  tp : ∃ ts : List Int, H' p = some (.lst (ts.map V.int)) ∧ ts.length ≤ m ∧ TapeOk ts
  fr : ∃ x y z, σ = [some (.ref a), some (.ref p), x, y, z]
theorem tape_more {ts : List Int} (h : TapeOk ts) {x : Int} (h0 : 0 ≤ x) (h1 : x < 1000) : TapeOk (ts ++ [x]) := fun y hy => by
  rcases List.mem_append.mp hy with hy | hy
  · exact h y hy
  · rw [List.mem_singleton.mp hy]
    exact ⟨h0, h1⟩
@[irreducible] def ip_u_law_tape (K : PySem.W.Frag) : Sp := sp_u_law_tape K
theorem op_u_law_tape {K : PySem.W.Frag} {vs : List V} {H : Hp} {Q : VK} {E : XK} (h : sp_u_law_tape K vs H Q E) : ip_u_law_tape K vs H Q E := by
  unfold ip_u_law_tape
  exact h
theorem un_u_law_tape {K : PySem.W.Frag} {vs : List V} {H : Hp} {Q : VK} {E : XK} (h : ip_u_law_tape K vs H Q E) : sp_u_law_tape K vs H Q E := by
  unfold ip_u_law_tape at h
  exact h
theorem ok_u_law_tape (T : Tx P w K mg base) : FnOk P w K mg base CX0 1 T.a_u_law_tape T.d_u_law_tape ["script"] (ip_u_law_tape K) := by
  refine T.p_u_law_tape.F.ok sc_u_law_tape (fun vs H Q E h => ?_) (fun cdv A outer s H vs Q E hr h => ?_)
  · obtain ⟨a, ns, rfl, hS, hn, q⟩ := un_u_law_tape h
    rfl
  · obtain ⟨a, ns, rfl, hS, hn, q⟩ := un_u_law_tape h
    refine ⟨_, (pss_cons (ps_set (i := 1) sc_u_law_tape.nd rfl (Or.inl rfl) (pe_lstM pa_nil)) (pss_cons (ps_forR1 PassesOwn.never rfl rfl T.n_range (pa_cons (pe_callB call_lenM (by rfl) T.n_len PySem.boot_len (pa_cons (pv 0) pa_nil)) pa_nil) (pg_name (i := 2) sc_u_law_tape.nd rfl (Or.inl rfl)) (pss_cons (ps_set (i := 3) sc_u_law_tape.nd rfl (Or.inl rfl) (pe_callB call_abs (by rfl) T.n_abs (by decide +kernel) (pa_cons (pe_callTy call_int1 (by rfl) T.n_int (by decide +kernel) (pa_cons (pe_ix ix_listM (pv 0) (pv 2) (fun _ _ => rfl)) pa_nil)) pa_nil))) (pss_one (ps_ifM (pt_cmpR op_geM (pv 3) (pe_op op_powM pe_int pe_int) (nomark _)) (pss_one (ps_forR1 PassesOwn.never rfl rfl T.n_range (pa_cons pe_int pa_nil) (pg_name (i := 4) sc_u_law_tape.nd rfl (Or.inl rfl)) (pss_one (ps_ifM (pt_cmpR op_gtM (pv 3) pe_int (nomark _)) (pss_cons (ps_expr (pe_app (pv 1) (pe_op op_modM (pv 3) pe_int))) (pss_one (ps_set (i := 3) sc_u_law_tape.nd rfl (Or.inl rfl) (pe_op op_fdivM (pv 3) pe_int)))) pss_nil)))) (pss_one (ps_forR1 PassesOwn.never rfl rfl T.n_range (pa_cons pe_int pa_nil) (pg_name (i := 4) sc_u_law_tape.nd rfl (Or.inl rfl)) (pss_cons (ps_set (i := 3) sc_u_law_tape.nd rfl (Or.inl rfl) (pe_op op_modM (pe_op op_addM (pe_op op_addM (pe_op op_mulM (pv 3) pe_int) (pe_op op_mulM pe_int (pe_op op_addM (pv 2) pe_int))) (pe_op op_mulM pe_int (pv 4))) pe_int)) (pss_cons (ps_set (i := 3) sc_u_law_tape.nd rfl (Or.inl rfl) (pe_op op_modM (pe_op op_mulM (pv 3) pe_int) pe_int)) (pss_one (ps_expr (pe_app (pv 1) (pe_op op_modM (pe_op op_fdivM (pv 3) pe_int) pe_int)))))))))))) (pss_one (ps_ret (pv 1))))), ?_⟩
    refine rd_lst ?_
    (repeat walk_at "rd")
    intro p H1 np s1 e1
    refine rd_forR1 ?_
    (repeat walk_at "rd")
    refine ⟨_, fun i σ H' => Stop (TapeW H a p (60 * i) σ H'), rfl, ⟨by omega, by omega⟩, .a ⟨s1, np, ⟨[], e1, Nat.zero_le _, fun x hx => by cases hx⟩, ⟨_, _, _, rfl⟩⟩, fun i σ' H' hi w => ?_, fun σ' H' w => ?_⟩
    · obtain ⟨sm, _, ⟨ts, etp, hts, htok⟩, x, y, z, rfl⟩ := w.un
      (repeat walk_at "rd")
      refine rd_ixI (by walk_at "sq") (by omega) (by omega) ?_
      (repeat walk_at "rd")
      generalize hv : ns.getD _ 0 = v
      have hneg : ∃ u : Int, (if v < 0 then -v else v) = u ∧ 0 ≤ u := by
        refine ⟨_, rfl, ?_⟩
        split <;> omega
      obtain ⟨u, eu, hu⟩ := hneg
      rw [eu]
      refine br_by (fun h => ?_) (fun h => ?_)
      · refine rd_forR1 ?_
        (repeat walk_at "rd")
        refine ⟨_, fun j σ H'' => Stop (TapeW H a p (60 * i + j) σ H'' ∧ ∃ u z, 0 ≤ u ∧ σ = [some (.ref a), some (.ref p), some (.int (i : Nat)), some (.int u), z]), rfl, ⟨by decide, by decide⟩, .a ⟨⟨sm, np, ⟨ts, etp, hts, htok⟩, ⟨_, _, _, rfl⟩⟩, u, z, hu, rfl⟩, fun j σ2 H2 hj w2 => ?_, fun σ2 H2 w2 => ?_⟩
        · obtain ⟨⟨sm2, _, ⟨ts2, etp2, hts2, htok2⟩, _⟩, u2, z2, hu2, rfl⟩ := w2.un
          (repeat walk_at "rd")
          refine br_by (fun h3 => ?_) (fun h3 => ?_)
          · (repeat walk_at "rd")
            refine rd_app etp2 (by rw [List.length_map]; omega) ?_
            (repeat walk_at "rd")
            refine .a ⟨⟨same_mut sm2 np, np, ⟨ts2 ++ [u2 % 1000], ?_, by rw [List.length_append, List.length_singleton]; omega, tape_more htok2 (by omega) (by omega)⟩, ⟨_, _, _, rfl⟩⟩, u2 / 1000, _, by omega, rfl⟩
            rw [upd_same, List.map_append]
            rfl
          · exact .a ⟨⟨sm2, np, ⟨ts2, etp2, by omega, htok2⟩, ⟨_, _, _, rfl⟩⟩, u2, _, hu2, rfl⟩
        · obtain ⟨⟨sm2, _, ⟨ts2, etp2, hts2, htok2⟩, _⟩, u2, z2, hu2, rfl⟩ := w2.un
          exact .a ⟨sm2, np, ⟨ts2, etp2, by omega, htok2⟩, ⟨_, _, _, rfl⟩⟩
      · refine rd_forR1 ?_
        (repeat walk_at "rd")
        refine ⟨_, fun j σ H'' => Stop (TapeW H a p (60 * i + j) σ H'' ∧ ∃ u z, 0 ≤ u ∧ σ = [some (.ref a), some (.ref p), some (.int (i : Nat)), some (.int u), z]), rfl, ⟨by decide, by decide⟩, .a ⟨⟨sm, np, ⟨ts, etp, hts, htok⟩, ⟨_, _, _, rfl⟩⟩, u, z, hu, rfl⟩, fun j σ2 H2 hj w2 => ?_, fun σ2 H2 w2 => ?_⟩
        · obtain ⟨⟨sm2, _, ⟨ts2, etp2, hts2, htok2⟩, _⟩, u2, z2, hu2, rfl⟩ := w2.un
          (repeat walk_at "rd")
          refine rd_app etp2 (by rw [List.length_map]; omega) ?_
          refine .a ⟨⟨same_mut sm2 np, np, ⟨ts2 ++ [?w], ?h1, ?h2, tape_more htok2 ?h3 ?h4⟩, ⟨_, _, _, rfl⟩⟩, ?u, ?z, ?h5, ?h6⟩
          case h1 =>
            rw [upd_same, List.map_append]
            rfl
          case h6 => rfl
          case h2 =>
            rw [List.length_append, List.length_singleton]
            omega
          all_goals omega
        · obtain ⟨⟨sm2, _, ⟨ts2, etp2, hts2, htok2⟩, _⟩, u2, z2, hu2, rfl⟩ := w2.un
          exact .a ⟨sm2, np, ⟨ts2, etp2, by omega, htok2⟩, ⟨_, _, _, rfl⟩⟩
    · obtain ⟨sm, _, ⟨ts, etp, hts, htok⟩, x, y, z, rfl⟩ := w.un
      (repeat walk_at "rd")
      exact q ts htok p _ np sm etp
end
/-! pieces: the mathematics -/
def hasOff (part : Int) : Bool := decide (part = 2) || decide (part = 3)
def dataW (bits part : Int) : List Int := if hasOff part = true then [1, 1, bits, 2, 8] else [1, 1, bits, 2]
def dataVals (poll : Bool) (sn part off : Int) : List Int := if hasOff part = true then [0, if poll = true then 1 else 0, sn, part, off] else [0, if poll = true then 1 else 0, sn, part]
def dataF (bits : Int) (poll : Bool) (number part off : Int) (body : List Int) : List Int := packF (dataW bits part) (dataVals poll (number % 2 ^ bits.toNat) part off) ++ body
inductive Parts where
  | data (poll : Bool) (number part off : Int) (body : List Int)
  | status (upto : Int) (ms : List (Int × Int × Int))
def statusBytes (bits count : Int) : Int := (5 + bits + count * (bits + 16) + 7) / 8
def statusW (bits : Int) (n : Nat) : List Int := [1, bits, 4] ++ (List.replicate n [bits, 8, 8]).flatten
def statusVals (bits upto : Int) (ms : List (Int × Int × Int)) : List Int := [1, upto % 2 ^ bits.toNat, (ms.length : Int)] ++ ms.flatMap fun r => [r.1 % 2 ^ bits.toNat, r.2.1, r.2.2]
def statusF (bits upto : Int) (ms : List (Int × Int × Int)) : List Int := packF (statusW bits ms.length) (statusVals bits upto ms)
def rowsOf (told : List Int) (n : Nat) : List (Int × Int × Int) := (List.range n).map fun i => (told.getD (3 * i) 0, told.getD (3 * i + 1) 0, told.getD (3 * i + 2) 0)
def readData (bits : Int) (piece : List Int) : Option Parts :=
  if (piece.length : Int) < sizeF [1, 1, bits, 2] then none
  else if (piece.length : Int) ≤ sizeF (dataW bits ((unpF [1, 1, bits, 2] piece).getD 3 0)) then none
  else some (.data (decide ((unpF [1, 1, bits, 2] piece).getD 1 0 = 1)) ((unpF [1, 1, bits, 2] piece).getD 2 0) ((unpF [1, 1, bits, 2] piece).getD 3 0)
    (if hasOff ((unpF [1, 1, bits, 2] piece).getD 3 0) = true then (unpF (dataW bits ((unpF [1, 1, bits, 2] piece).getD 3 0)) piece).getD 4 0 else 0)
    (piece.drop (sizeF (dataW bits ((unpF [1, 1, bits, 2] piece).getD 3 0))).toNat))
def readStatus (bits : Int) (piece : List Int) : Option Parts :=
  if (piece.length : Int) < sizeF [1, bits, 4] then none
  else if 8 < (unpF [1, bits, 4] piece).getD 2 0 ∨ (piece.length : Int) ≠ statusBytes bits ((unpF [1, bits, 4] piece).getD 2 0) then none
  else some (.status ((unpF [1, bits, 4] piece).getD 1 0) (rowsOf ((unpF (statusW bits ((unpF [1, bits, 4] piece).getD 2 0).toNat) piece).drop 3) ((unpF [1, bits, 4] piece).getD 2 0).toNat))
def readF (bits : Int) (piece : List Int) : Option Parts :=
  if piece.length = 0 then none else if (unpF [1] piece).getD 0 0 = 0 then readData bits piece else readStatus bits piece

theorem fldF_app (N : Int) : ∀ (ws us : List Int) (u : Int), fldF N u (ws ++ us) = fldF N u ws ++ fldF N (u - ws.sum) us
  | [], us, u => by
    show fldF N u us = [] ++ fldF N (u - 0) us
    rw [Int.sub_zero]
    rfl
  | x :: r, us, u => by
    show _ :: fldF N (u - x) (r ++ us) = _ :: fldF N (u - x) r ++ _
    rw [fldF_app N r, List.sum_cons]
    have e : u - x - r.sum = u - (x + r.sum) := by omega
    rw [e]
    rfl
theorem fldF_length (N : Int) : ∀ (ws : List Int) (u : Int), (fldF N u ws).length = ws.length
  | [], _ => rfl
  | x :: r, u => by
    show (fldF N (u - x) r).length + 1 = r.length + 1
    rw [fldF_length N r]
theorem fldF_shift (N : Int) (d : Nat) : ∀ (ws : List Int) (u : Int), (∀ w ∈ ws, 0 ≤ w) → ws.sum ≤ u → fldF N (u + d) ws = fldF (N / 2 ^ d) u ws
  | [], _, _, _ => rfl
  | x :: r, u, h, hu => by
    rw [List.sum_cons] at hu
    have hx := h x List.mem_cons_self
    have hr : 0 ≤ r.sum := sum_nn fun w hw => h w (List.mem_cons_of_mem _ hw)
    show _ :: _ = _ :: _
    have e : u + (d : Int) - x = u - x + d := by omega
    rw [e, fldF_shift N d r (u - x) (fun w hw => h w (List.mem_cons_of_mem _ hw)) (by omega)]
    congr 1
    have e2 : (u - x + (d : Int)).toNat = d + (u - x).toNat := by omega
    rw [e2, pow_add2, ← Int.ediv_ediv_of_nonneg (Int.le_of_lt (pow_nn d))]
theorem num256_app (xs ys : List Int) : num256 (xs ++ ys) = num256 xs * 2 ^ (8 * ys.length) + num256 ys := by
  have key : ∀ (ys : List Int) (z : Int), ys.foldl (fun r d => r * 2 ^ 8 + d) z = z * 2 ^ (8 * ys.length) + num256 ys := by
    intro ys
    induction ys with
    | nil => intro z; show z = z * 2 ^ 0 + 0; simp
    | cons y r ih =>
      intro z
      rw [List.foldl_cons, ih]
      show _ = z * 2 ^ (8 * (r.length + 1)) + List.foldl _ (0 * 2 ^ 8 + y) r
      rw [ih, Nat.mul_add, pow_add2, Int.zero_mul, Int.zero_add, Int.add_mul]
      have : z * 2 ^ 8 * 2 ^ (8 * r.length) = z * (2 ^ (8 * r.length) * 2 ^ (8 * 1)) := by
        rw [Int.mul_assoc, Int.mul_comm (2 ^ 8)]
      omega
  unfold num256
  rw [List.foldl_append]
  exact key ys _
/-- the fields ahead do not hang on those behind -/
theorem unp_app {ws us ds : List Int} (hw : ∀ w ∈ ws ++ us, 0 ≤ w) (hd : ∀ d ∈ ds, 0 ≤ d ∧ d < 256) (hl : sizeF (ws ++ us) ≤ (ds.length : Int)) :
    unpF (ws ++ us) ds = unpF ws ds ++ fldF (num256 (ds.take (sizeF (ws ++ us)).toNat)) (8 * sizeF (ws ++ us) - ws.sum) us := by
  unfold unpF
  rw [fldF_app]
  congr 1
  have h1 : 0 ≤ ws.sum := sum_nn fun w h => hw w (List.mem_append_left _ h)
  have h2 : 0 ≤ us.sum := sum_nn fun w h => hw w (List.mem_append_right _ h)
  have e0 : (ws ++ us).sum = ws.sum + us.sum := List.sum_append
  have hs : 0 ≤ sizeF ws ∧ sizeF ws ≤ sizeF (ws ++ us) ∧ ws.sum ≤ 8 * sizeF ws := by unfold sizeF; rw [e0]; omega
  generalize hs' : sizeF (ws ++ us) = s' at *
  generalize hs2 : sizeF ws = s at *
  have e1 : ds.take s'.toNat = ds.take s.toNat ++ (ds.drop s.toNat).take (s'.toNat - s.toNat) := by
    rw [← List.take_add]
    congr 1
    omega
  have hlen : ((ds.drop s.toNat).take (s'.toNat - s.toNat)).length = s'.toNat - s.toNat := by
    rw [List.length_take, List.length_drop]
    omega
  have e2 : 8 * s' = 8 * s + ((8 * (s'.toNat - s.toNat) : Nat) : Int) := by omega
  rw [e2, fldF_shift _ _ ws (8 * s) (fun w h => hw w (List.mem_append_left _ h)) hs.2.2]
  congr 1
  rw [e1, num256_app, hlen]
  obtain ⟨b1, b2⟩ := num256_bound ((ds.drop s.toNat).take (s'.toNat - s.toNat)) fun d h => hd d (List.mem_of_mem_drop (List.mem_of_mem_take h))
  rw [hlen] at b2
  rw [Int.add_comm, Int.add_mul_ediv_right _ _ (Int.ne_of_gt (pow_nn _)), Int.ediv_eq_zero_of_lt b1 b2, Int.zero_add]
theorem unpF_length (ws ds : List Int) : (unpF ws ds).length = ws.length := fldF_length _ _ _
theorem packF_length {ws vs : List Int} (h : wok ws = true) : ((packF ws vs).length : Int) = sizeF ws := by
  have e : (packF ws vs).length = (sizeF ws).toNat := bytesOf_length _ _
  have h0 : 0 ≤ ws.sum := sum_nn fun w hw => by have := wok_iff.mp h w hw; omega
  rw [e]
  unfold sizeF
  omega
theorem packF_byte {ws vs : List Int} {d : Int} (h : d ∈ packF ws vs) : 0 ≤ d ∧ d < 256 := by
  unfold packF bytesOf at h
  obtain ⟨k, _, rfl⟩ := List.mem_map.mp h
  exact byteAt_bound _ _ _
/-- fields packed and read by a beginning of their widths -/
theorem unp_pack_pre {ws us vs es : List Int} (h : okF (ws ++ us) vs = true) (he : ∀ d ∈ es, 0 ≤ d ∧ d < 256) : unpF ws (packF (ws ++ us) vs ++ es) = vs.take ws.length := by
  have hw := okF_wok h
  have k := unp_pack (es := es) h
  have hb : ∀ d ∈ packF (ws ++ us) vs ++ es, 0 ≤ d ∧ d < 256 := fun d hd => by
    rcases List.mem_append.mp hd with hd | hd
    · exact packF_byte hd
    · exact he d hd
  have hl := packF_length (vs := vs) hw
  rw [unp_app (fun w hw' => by have := wok_iff.mp hw w hw'; omega) hb (by rw [List.length_append]; omega)] at k
  have k2 := congrArg (List.take ws.length) k
  rw [List.take_append_of_le_length (by rw [unpF_length]; omega), List.take_of_length_le (by rw [unpF_length]; omega)] at k2
  exact k2
theorem okF_cons {w v : Int} {ws vs : List Int} : okF (w :: ws) (v :: vs) = (okP (w, v) && okF ws vs) := by
  unfold okF
  rw [List.zip_cons_cons, List.all_cons, List.length_cons, List.length_cons]
  by_cases h : ws.length = vs.length
  · rw [decide_eq_true h, decide_eq_true (by omega), Bool.true_and, Bool.true_and]
  · rw [decide_eq_false h, decide_eq_false (by omega), Bool.false_and, Bool.false_and, Bool.and_false]
theorem okF_nil : okF [] [] = true := rfl
theorem okP_lit {w v : Int} (h1 : 1 ≤ w) (h2 : 0 ≤ v) (h3 : v < 2 ^ w.toNat) : okP (w, v) = true := okP_iff.mpr ⟨h1, h2, h3⟩
theorem data_ok {bits sn part off : Int} {poll : Bool} (hb : 1 ≤ bits) (hs : 0 ≤ sn ∧ sn < 2 ^ bits.toNat) (hp : 0 ≤ part ∧ part < 4) (ho : 0 ≤ off ∧ off < 256) : okF (dataW bits part) (dataVals poll sn part off) = true := by
  have e1 : (2 : Int) ^ (1 : Int).toNat = 2 := by decide
  have e2 : (2 : Int) ^ (2 : Int).toNat = 4 := by decide
  have e8 : (2 : Int) ^ (8 : Int).toNat = 256 := by decide
  have hpo : (0 : Int) ≤ (if poll = true then 1 else 0) ∧ (if poll = true then (1 : Int) else 0) < 2 := by cases poll <;> decide
  unfold dataW dataVals
  by_cases h : hasOff part = true
  · rw [if_pos h, if_pos h, okF_cons, okF_cons, okF_cons, okF_cons, okF_cons, okF_nil, okP_lit (by decide) (by decide) (by decide), okP_lit (by decide) hpo.1 (by rw [e1]; exact hpo.2), okP_lit hb hs.1 hs.2, okP_lit (by decide) hp.1 (by rw [e2]; exact hp.2), okP_lit (by decide) ho.1 (by rw [e8]; exact ho.2)]
    rfl
  · rw [if_neg h, if_neg h, okF_cons, okF_cons, okF_cons, okF_cons, okF_nil, okP_lit (by decide) (by decide) (by decide), okP_lit (by decide) hpo.1 (by rw [e1]; exact hpo.2), okP_lit hb hs.1 hs.2, okP_lit (by decide) hp.1 (by rw [e2]; exact hp.2)]
    rfl
/-- a data piece, read -/
theorem read_data {bits number part off : Int} {poll : Bool} {body : List Int} (hb : 1 ≤ bits) (hp : 0 ≤ part ∧ part < 4) (ho : 0 ≤ off ∧ off < 256) (hy : ∀ d ∈ body, 0 ≤ d ∧ d < 256) (hne : body ≠ []) :
    readF bits (dataF bits poll number part off body) = some (.data poll (number % 2 ^ bits.toNat) part (if hasOff part = true then off else 0) body) := by
  have hsn : 0 ≤ number % 2 ^ bits.toNat ∧ number % 2 ^ bits.toNat < 2 ^ bits.toNat := ⟨Int.emod_nonneg _ (Int.ne_of_gt (pow_nn _)), Int.emod_lt_of_pos _ (pow_nn _)⟩
  unfold dataF
  generalize number % 2 ^ bits.toNat = sn at hsn
  have hok := data_ok (poll := poll) hb hsn hp ho
  have hw := okF_wok hok
  have hl := packF_length (vs := dataVals poll sn part off) hw
  have hbl : 0 < body.length := List.length_pos_iff.mpr hne
  have hsz : 1 ≤ sizeF (dataW bits part) ∧ sizeF [1, 1, bits, 2] ≤ sizeF (dataW bits part) := by
    unfold dataW sizeF
    split <;> simp <;> omega
  generalize hP : packF (dataW bits part) (dataVals poll sn part off) = P at *
  -- the prefixes
  have u1 : unpF [1] (P ++ body) = [0] := by
    by_cases h : hasOff part = true
    · have e : dataW bits part = [1] ++ [1, bits, 2, 8] := by unfold dataW; rw [if_pos h]; rfl
      rw [← hP, e]
      rw [e] at hok
      rw [unp_pack_pre hok hy]
      unfold dataVals
      rw [if_pos h]
      rfl
    · have e : dataW bits part = [1] ++ [1, bits, 2] := by unfold dataW; rw [if_neg h]; rfl
      rw [← hP, e]
      rw [e] at hok
      rw [unp_pack_pre hok hy]
      unfold dataVals
      rw [if_neg h]
      rfl
  have u4 : unpF [1, 1, bits, 2] (P ++ body) = [0, if poll = true then 1 else 0, sn, part] := by
    by_cases h : hasOff part = true
    · have e : dataW bits part = [1, 1, bits, 2] ++ [8] := by unfold dataW; rw [if_pos h]; rfl
      rw [← hP, e]
      rw [e] at hok
      rw [unp_pack_pre hok hy]
      unfold dataVals
      rw [if_pos h]
      rfl
    · have e : dataW bits part = [1, 1, bits, 2] ++ [] := by unfold dataW; rw [if_neg h]; rfl
      rw [← hP, e]
      rw [e] at hok
      rw [unp_pack_pre hok hy]
      unfold dataVals
      rw [if_neg h]
      rfl
  have u5 : unpF (dataW bits part) (P ++ body) = dataVals poll sn part off := by
    rw [← hP]
    exact unp_pack hok
  unfold readF
  rw [if_neg (by rw [List.length_append]; omega), u1, if_pos (show ([0] : List Int).getD 0 0 = 0 from rfl)]
  unfold readData
  rw [u4]
  show (if _ then none else if ((P ++ body).length : Int) ≤ sizeF (dataW bits part) then none else some (Parts.data (decide ((if poll = true then (1 : Int) else 0) = 1)) sn part (if hasOff part = true then (unpF (dataW bits part) (P ++ body)).getD 4 0 else 0) ((P ++ body).drop (sizeF (dataW bits part)).toNat))) = _
  rw [if_neg (by rw [List.length_append]; omega), if_neg (by rw [List.length_append]; omega), u5]
  have e1 : decide ((if poll = true then (1 : Int) else 0) = 1) = poll := by cases poll <;> rfl
  have e2 : (P ++ body).drop (sizeF (dataW bits part)).toNat = body := by
    have : (sizeF (dataW bits part)).toNat = P.length := by omega
    rw [this]
    exact List.drop_left
  rw [e1, e2]
  congr 2
  by_cases h : hasOff part = true
  · rw [if_pos h, if_pos h]
    unfold dataVals
    rw [if_pos h]
    rfl
  · rw [if_neg h, if_neg h]
/-- what a reader hands back, as it stands in a heap -/
def rowV (r : Int × Int × Int) : List V := [.int r.1, .int r.2.1, .int r.2.2]
structure RowsAt (H : Hp) (a : Addr) (ms : List (Int × Int × Int)) : Prop where
  ex : ∃ ps : List Addr, H a = some (.lst (ps.map V.ref)) ∧ ps.length = ms.length ∧ ∀ (i : Nat) (p : Addr) (r : Int × Int × Int), ps[i]? = some p → ms[i]? = some r → H p = some (.tup (rowV r))
theorem RowsAt.mono {H H' : Hp} {a : Addr} {ms : List (Int × Int × Int)} (h : RowsAt H a ms) (s : Same H H') : RowsAt H' a ms := by
  obtain ⟨ps, h1, h2, h3⟩ := h.ex
  exact ⟨ps, s _ _ h1, h2, fun i p r e1 e2 => s _ _ (h3 i p r e1 e2)⟩
def PartsAt (H : Hp) (v : V) : Option Parts → Prop
  | none => v = .non
  | some (.data poll n part off body) => ∃ p b, v = .ref p ∧ H p = some (.tup [.str "data", .bl poll, .int n, .int part, .int off, .ref b]) ∧ H b = some (.lst (body.map V.int))
  | some (.status upto ms) => ∃ p m, v = .ref p ∧ H p = some (.tup [.str "status", .int upto, .ref m]) ∧ RowsAt H m ms
def rowD (r : Int × Int × Int) : PyData := .tuple [.int r.1, .int r.2.1, .int r.2.2]
def partsD : Option Parts → PyData
  | none => .none
  | some (.data poll n part off body) => .tuple [.str "data", .bool poll, .int n, .int part, .int off, .list (body.map PyData.int)]
  | some (.status upto ms) => .tuple [.str "status", .int upto, .list (ms.map rowD)]
theorem dpa_rows {K : PySem.W.Frag} {H : Hp} : ∀ {ps : List Addr} {ms : List (Int × Int × Int)}, ps.length = ms.length → (∀ (i : Nat) (p : Addr) (r : Int × Int × Int), ps[i]? = some p → ms[i]? = some r → H p = some (.tup (rowV r))) → DpAll K H (ps.map V.ref) (ms.map rowD)
  | [], [], _, _ => .nil
  | p :: ps, r :: ms, hl, h => .cons (.tup (st_of (h 0 p r rfl rfl)) (.cons (.int _) (.cons (.int _) (.cons (.int _) .nil)))) (dpa_rows (by simpa using hl) fun i q x e1 e2 => h (i + 1) q x e1 e2)
theorem RowsAt.dp {K : PySem.W.Frag} {H : Hp} {a : Addr} {ms : List (Int × Int × Int)} (h : RowsAt H a ms) : Dp K H (.ref a) (.list (ms.map rowD)) := by
  obtain ⟨ps, h1, h2, h3⟩ := h.ex
  exact .lst (sq_of h1) (dpa_rows h2 h3)
theorem sh_rows (ms : List (Int × Int × Int)) : Sh 2 (.list (ms.map rowD)) := sh_lst (sh_map (fun r => sh_tup (sh_cons sh_int (sh_cons sh_int (sh_cons sh_int sh_nil)))) ms)
theorem PartsAt.dp {K : PySem.W.Frag} {H : Hp} {v : V} {r : Option Parts} (h : PartsAt H v r) : Dp K H v (partsD r) := by
  match r, h with
  | none, h =>
    rw [show v = .non from h]
    exact .non
  | some (.data poll n part off body), h =>
    obtain ⟨p, b, rfl, h1, h2⟩ := h
    exact .tup (st_of h1) (.cons (.str _) (.cons (.bl _) (.cons (.int _) (.cons (.int _) (.cons (.int _) (.cons (dp_ints (sq_of h2)) .nil))))))
  | some (.status upto ms), h =>
    obtain ⟨p, m, rfl, h1, h2⟩ := h
    exact .tup (st_of h1) (.cons (.str _) (.cons (.int _) (.cons h2.dp .nil)))
theorem sh_parts : ∀ r : Option Parts, Sh 3 (partsD r)
  | none => sh_non
  | some (.data _ _ _ _ body) => sh_tup (sh_cons (sh_str (by decide +kernel)) (sh_cons sh_bl (sh_cons sh_int (sh_cons sh_int (sh_cons sh_int (sh_cons (sh_lst (sh_ints body)) sh_nil))))))
  | some (.status _ ms) => sh_tup (sh_cons (sh_str (by decide +kernel)) (sh_cons sh_int (sh_cons (sh_rows ms) sh_nil)))
theorem PartsAt.mono {H H' : Hp} {v : V} {r : Option Parts} (h : PartsAt H v r) (s : Same H H') : PartsAt H' v r := by
  match r, h with
  | none, h => exact h
  | some (.data poll n part off body), h =>
    obtain ⟨p, b, e, h1, h2⟩ := h
    exact ⟨p, b, e, s _ _ h1, s _ _ h2⟩
  | some (.status upto ms), h =>
    obtain ⟨p, m, e, h1, h2⟩ := h
    exact ⟨p, m, e, s _ _ h1, h2.mono s⟩
theorem cutV_from {ds : List Int} {k : Int} (h0 : 0 ≤ k) : cutV (ds.map V.int) (some k) none = (ds.drop k.toNat).map V.int := by
  unfold cutV
  have e : k = ((k.toNat : Nat) : Int) := by omega
  rw [HT.sIx_none]
  rw [e, HT.sIx_nat, Int.toNat_natCast, List.length_map, ← List.map_drop, ← List.map_take]
  congr 1
  by_cases h : k.toNat ≤ ds.length
  · rw [Nat.min_eq_left h, List.take_of_length_le (by rw [List.length_drop]; omega)]
  · rw [Nat.min_eq_right (by omega), Nat.sub_self, List.take_zero, List.drop_eq_nil_of_le (by omega)]
theorem size_data {bits part : Int} (h : 1 ≤ bits) (h2 : bits ≤ 100) : 1 ≤ sizeF (dataW bits part) ∧ sizeF (dataW bits part) ≤ 20 := by
  unfold dataW sizeF
  split <;> simp <;> omega
theorem dataW_wok {bits part : Int} (h : 1 ≤ bits) : wok (dataW bits part) = true := by
  rw [wok_iff]
  unfold dataW
  intro w hw
  split at hw <;> simp at hw <;> omega
theorem dataW_le {bits part : Int} (h : bits ≤ 100) : ∀ w ∈ dataW bits part, w ≤ 1000 := by
  unfold dataW
  intro w hw
  split at hw <;> simp at hw <;> omega
theorem dataW_len (bits part : Int) : (dataW bits part).length ≤ 5 := by
  unfold dataW
  split <;> exact Nat.le_of_ble_eq_true rfl
section
variable {P : Program} {w : World} {K : PySem.W.Frag} {mg : Str → Option Value} {base : Heap}
def sp_u_has_offset (K : PySem.W.Frag) : Sp := fun vs H Q _ => ∃ p : Int, vs = [.int p] ∧ Q (.bl (hasOff p)) H
@[irreducible] def ip_u_has_offset (K : PySem.W.Frag) : Sp := sp_u_has_offset K
theorem op_u_has_offset {K : PySem.W.Frag} {vs : List V} {H : Hp} {Q : VK} {E : XK} (h : sp_u_has_offset K vs H Q E) : ip_u_has_offset K vs H Q E := by
  unfold ip_u_has_offset
  exact h
theorem un_u_has_offset {K : PySem.W.Frag} {vs : List V} {H : Hp} {Q : VK} {E : XK} (h : ip_u_has_offset K vs H Q E) : sp_u_has_offset K vs H Q E := by
  unfold ip_u_has_offset at h
  exact h
theorem ok_u_has_offset (T : Tx P w K mg base) : FnOk P w K mg base CX0 1 T.a_u_has_offset T.d_u_has_offset ["part"] (ip_u_has_offset K) := by
  refine T.p_u_has_offset.F.ok sc_u_has_offset (fun vs H Q E h => ?_) (fun cdv A outer s H vs Q E hr h => ?_)
  · obtain ⟨p, rfl, q⟩ := un_u_has_offset h
    rfl
  · obtain ⟨p, rfl, q⟩ := un_u_has_offset h
    refine ⟨_, (pss_one (ps_ret (pe_orM (pe_cmpR op_eq (pv 0) (pe_gint rfl T.g_END) (nomark _)) (pe_one (pe_cmpR op_eq (pv 0) (pe_gint rfl T.g_WITHIN) (nomark _)))))), ?_⟩
    (repeat walk_at "rd")
    refine br_eby (fun h => ?_) (fun h => ?_)
    · (repeat walk_at "rd")
      refine q_bl q ?_
      unfold hasOff
      rw [decide_eq_true h]
      rfl
    · (repeat walk_at "rd")
      refine q_bl q ?_
      unfold hasOff
      rw [decide_eq_false h, Bool.false_or]
      by_cases h3 : p = 3
      · rw [decide_eq_true h3, decide_eq_true (congrArg V.int h3)]
      · rw [decide_eq_false h3, decide_eq_false fun e => h3 (V.int.inj e)]
def sp_u_data_widths (K : PySem.W.Frag) : Sp := fun vs H Q _ => ∃ b p : Int, vs = [.int b, .int p] ∧ NewO (.lst ((dataW b p).map V.int)) H Q
@[irreducible] def ip_u_data_widths (K : PySem.W.Frag) : Sp := sp_u_data_widths K
theorem op_u_data_widths {K : PySem.W.Frag} {vs : List V} {H : Hp} {Q : VK} {E : XK} (h : sp_u_data_widths K vs H Q E) : ip_u_data_widths K vs H Q E := by
  unfold ip_u_data_widths
  exact h
theorem un_u_data_widths {K : PySem.W.Frag} {vs : List V} {H : Hp} {Q : VK} {E : XK} (h : ip_u_data_widths K vs H Q E) : sp_u_data_widths K vs H Q E := by
  unfold ip_u_data_widths at h
  exact h
theorem ok_u_data_widths (T : Tx P w K mg base) : FnOk P w K mg base CX0 2 T.a_u_data_widths T.d_u_data_widths ["bits", "part"] (ip_u_data_widths K) := by
  have G_u_has_offset := ok_u_has_offset T
  refine T.p_u_data_widths.F.ok sc_u_data_widths (fun vs H Q E h => ?_) (fun cdv A outer s H vs Q E hr h => ?_)
  · obtain ⟨b, p, rfl, q⟩ := un_u_data_widths h
    rfl
  · obtain ⟨b, p, rfl, q⟩ := un_u_data_widths h
    refine ⟨_, (pss_cons (ps_ifM (pt_val (pe_call G_u_has_offset (hr.mono (by decide)) rfl T.p_u_has_offset.m T.p_u_has_offset.F.kp T.p_u_has_offset.b .nil pass0 (pa_cons (pv 1) pa_nil))) (pss_one (ps_ret (pe_lstM (pa_cons pe_int (pa_cons pe_int (pa_cons (pv 0) (pa_cons pe_int (pa_cons pe_int pa_nil)))))))) pss_nil) (pss_one (ps_ret (pe_lstM (pa_cons pe_int (pa_cons pe_int (pa_cons (pv 0) (pa_cons pe_int pa_nil)))))))), ?_⟩
    (repeat walk_at "rd")
    refine op_u_has_offset ⟨p, rfl, ?_⟩
    (repeat walk_at "rd")
    unfold dataW at q
    refine br_b (fun h => ?_) (fun h => ?_)
    · rw [if_pos h] at q
      (repeat walk_at "rd")
      exact q
    · rw [if_neg (by rw [h]; decide)] at q
      (repeat walk_at "rd")
      exact q
def sp_u_status_head (K : PySem.W.Frag) : Sp := fun vs H Q _ => ∃ b : Int, vs = [.int b] ∧ NewO (.lst (([1, b, 4] : List Int).map V.int)) H Q
@[irreducible] def ip_u_status_head (K : PySem.W.Frag) : Sp := sp_u_status_head K
theorem op_u_status_head {K : PySem.W.Frag} {vs : List V} {H : Hp} {Q : VK} {E : XK} (h : sp_u_status_head K vs H Q E) : ip_u_status_head K vs H Q E := by
  unfold ip_u_status_head
  exact h
theorem un_u_status_head {K : PySem.W.Frag} {vs : List V} {H : Hp} {Q : VK} {E : XK} (h : ip_u_status_head K vs H Q E) : sp_u_status_head K vs H Q E := by
  unfold ip_u_status_head at h
  exact h
theorem ok_u_status_head (T : Tx P w K mg base) : FnOk P w K mg base CX0 1 T.a_u_status_head T.d_u_status_head ["bits"] (ip_u_status_head K) := by
  refine T.p_u_status_head.F.ok sc_u_status_head (fun vs H Q E h => ?_) (fun cdv A outer s H vs Q E hr h => ?_)
  · obtain ⟨b, rfl, q⟩ := un_u_status_head h
    rfl
  · obtain ⟨b, rfl, q⟩ := un_u_status_head h
    refine ⟨_, (pss_one (ps_ret (pe_lstM (pa_cons pe_int (pa_cons (pv 0) (pa_cons pe_int pa_nil)))))), ?_⟩
    (repeat walk_at "rd")
    exact q
def sp_u_range_widths (K : PySem.W.Frag) : Sp := fun vs H Q _ => ∃ b : Int, vs = [.int b] ∧ NewO (.lst (([b, 8, 8] : List Int).map V.int)) H Q
@[irreducible] def ip_u_range_widths (K : PySem.W.Frag) : Sp := sp_u_range_widths K
theorem op_u_range_widths {K : PySem.W.Frag} {vs : List V} {H : Hp} {Q : VK} {E : XK} (h : sp_u_range_widths K vs H Q E) : ip_u_range_widths K vs H Q E := by
  unfold ip_u_range_widths
  exact h
theorem un_u_range_widths {K : PySem.W.Frag} {vs : List V} {H : Hp} {Q : VK} {E : XK} (h : ip_u_range_widths K vs H Q E) : sp_u_range_widths K vs H Q E := by
  unfold ip_u_range_widths at h
  exact h
theorem ok_u_range_widths (T : Tx P w K mg base) : FnOk P w K mg base CX0 1 T.a_u_range_widths T.d_u_range_widths ["bits"] (ip_u_range_widths K) := by
  refine T.p_u_range_widths.F.ok sc_u_range_widths (fun vs H Q E h => ?_) (fun cdv A outer s H vs Q E hr h => ?_)
  · obtain ⟨b, rfl, q⟩ := un_u_range_widths h
    rfl
  · obtain ⟨b, rfl, q⟩ := un_u_range_widths h
    refine ⟨_, (pss_one (ps_ret (pe_lstM (pa_cons (pv 0) (pa_cons pe_int (pa_cons pe_int pa_nil)))))), ?_⟩
    (repeat walk_at "rd")
    exact q
def sp_data_piece (K : PySem.W.Frag) : Sp := fun vs H Q _ => ∃ (bits : Int) (poll : Bool) (n part off : Int) (b : Addr) (body : List Int), vs = [.int bits, .bl poll, .int n, .int part, .int off, .ref b] ∧ (1 ≤ bits ∧ bits ≤ 100) ∧ (0 ≤ part ∧ part < 4) ∧ (0 ≤ off ∧ off < 256) ∧ H b = some (.lst (body.map V.int)) ∧ body.length ≤ 10000 ∧
  NewO (.lst ((dataF bits poll n part off body).map V.int)) H Q
@[irreducible] def ip_data_piece (K : PySem.W.Frag) : Sp := sp_data_piece K
theorem op_data_piece {K : PySem.W.Frag} {vs : List V} {H : Hp} {Q : VK} {E : XK} (h : sp_data_piece K vs H Q E) : ip_data_piece K vs H Q E := by
  unfold ip_data_piece
  exact h
theorem un_data_piece {K : PySem.W.Frag} {vs : List V} {H : Hp} {Q : VK} {E : XK} (h : ip_data_piece K vs H Q E) : sp_data_piece K vs H Q E := by
  unfold ip_data_piece at h
  exact h
theorem ok_data_piece (T : Tx P w K mg base) : FnOk P w K mg base CX0 5 T.a_data_piece T.d_data_piece ["bits", "poll", "number", "part", "offset", "body"] (ip_data_piece K) := by
  have G_u_has_offset := ok_u_has_offset T
  have G_short := ok_short T
  have G_pack := ok_pack T
  have G_u_data_widths := ok_u_data_widths T
  refine T.p_data_piece.F.ok sc_data_piece (fun vs H Q E h => ?_) (fun cdv A outer s H vs Q E hr h => ?_)
  · obtain ⟨bits, poll, n, part, off, b, body, rfl, hb, hp, ho, hB, hl, q⟩ := un_data_piece h
    rfl
  · obtain ⟨bits, poll, n, part, off, b, body, rfl, hb, hp, ho, hB, hl, q⟩ := un_data_piece h
    refine ⟨_, (pss_cons (ps_set (i := 6) sc_data_piece.nd rfl (Or.inl rfl) (pe_lstM (pa_cons (pe_gint rfl T.g_DATA) (pa_cons (pe_ifM (pt_val (pv 1)) pe_int pe_int) (pa_cons (pe_call G_short (hr.mono (by decide)) rfl T.p_short.m T.p_short.F.kp T.p_short.b .nil pass0 (pa_cons (pv 2) (pa_cons (pv 0) pa_nil))) (pa_cons (pv 3) pa_nil)))))) (pss_cons (ps_ifM (pt_val (pe_call G_u_has_offset (hr.mono (by decide)) rfl T.p_u_has_offset.m T.p_u_has_offset.F.kp T.p_u_has_offset.b .nil pass0 (pa_cons (pv 3) pa_nil))) (pss_one (ps_expr (pe_app (pv 6) (pv 4)))) pss_nil) (pss_one (ps_ret (pe_op op_catM (pe_call G_pack (hr.mono (by decide)) rfl T.p_pack.m T.p_pack.F.kp T.p_pack.b .nil passL (pa_cons (pe_call G_u_data_widths (hr.mono (by decide)) rfl T.p_u_data_widths.m T.p_u_data_widths.F.kp T.p_u_data_widths.b .nil pass0 (pa_cons (pv 0) (pa_cons (pv 3) pa_nil))) (pa_cons (pv 6) pa_nil))) (pv 5)))))), ?_⟩
    have fin : ∀ (H1 H2 : Hp) (vp wp : Addr), Same H H1 → H1 vp = some (.lst ((dataVals poll (n % 2 ^ bits.toNat) part off).map V.int)) → Same H1 H2 → H2 wp = some (.lst ((dataW bits part).map V.int)) → ∀ (Q2 : VK), (∀ p3 H3, Same H H3 → H p3 = none → H3 p3 = some (.lst ((packF (dataW bits part) (dataVals poll (n % 2 ^ bits.toNat) part off)).map V.int)) → Q2 (.ref p3) H3) → ip_pack K T.C_NotValid [.ref wp, .ref vp] H2 Q2 E0 := fun H1 H2 vp wp s1 e1 s2 e2 Q2 k => by
      have hok := data_ok (poll := poll) hb.1 (sn := n % 2 ^ bits.toNat) ⟨Int.emod_nonneg _ (Int.ne_of_gt (pow_nn _)), Int.emod_lt_of_pos _ (pow_nn _)⟩ hp ho
      refine op_pack ⟨wp, vp, _, _, rfl, sq_of e2, sq_of (s2 _ _ e1), ?_, dataW_le hb.2, fun _ p3 H3 n3 s3 e3 => ?_, fun h => by rw [hok] at h; cases h⟩
      · exact Nat.le_trans (dataW_len _ _) (by decide)
      · have s13 := (s1.trans s2).trans s3
        exact k p3 H3 s13 ((s1.trans s2).free n3) e3
    have e0 : ∀ (ho2 : hasOff part = true), dataVals poll (n % 2 ^ bits.toNat) part off = [0, if poll = true then 1 else 0, n % 2 ^ bits.toNat, part] ++ [off] := fun h => by unfold dataVals; rw [if_pos h]; rfl
    have e1' : ∀ (ho2 : hasOff part = false), dataVals poll (n % 2 ^ bits.toNat) part off = [0, if poll = true then 1 else 0, n % 2 ^ bits.toNat, part] := fun h => by unfold dataVals; rw [if_neg (by rw [h]; decide)]
    have fin2 : ∀ (p3 : Addr) (H3 : Hp), Same H H3 → H p3 = none → H3 p3 = some (.lst ((packF (dataW bits part) (dataVals poll (n % 2 ^ bits.toNat) part off)).map V.int)) → mCat K (.ref p3) (.ref b) H3 Q := fun p3 H3 s3 n3 e3 => by
      have hl2 : (packF (dataW bits part) (dataVals poll (n % 2 ^ bits.toNat) part off)).length ≤ 20 := by
        have h1 := packF_length (vs := dataVals poll (n % 2 ^ bits.toNat) part off) (dataW_wok (part := part) hb.1)
        have h2 := size_data (part := part) hb.1 hb.2
        omega
      refine rd_cat e3 (s3 _ _ hB) (by rw [List.length_map, List.length_map]; omega) fun p4 H4 n4 s4 e4 => ?_
      refine q p4 H4 (s3.free n4) (s3.trans s4) ?_
      rw [e4]
      unfold dataF
      rw [List.map_append]
    cases poll
    all_goals
      (repeat walk_at "rd")
      refine op_short ⟨n, bits, rfl, by omega, by omega, ?_⟩
      (repeat walk_at "rd")
      intro vp H1 n1 s1 e1
      (repeat walk_at "rd")
      refine op_u_has_offset ⟨part, rfl, ?_⟩
      (repeat walk_at "rd")
      refine br_b (fun h => ?_) (fun h => ?_)
      · (repeat walk_at "rd")
        refine rd_app e1 (by exact Nat.le_of_ble_eq_true rfl) ?_
        (repeat walk_at "rd")
        refine op_u_data_widths ⟨bits, part, rfl, fun wp H2 n2 s2 e2 => ?_⟩
        (repeat walk_at "rd")
        exact fin (upd H1 vp _) H2 vp wp (same_mut s1 n1) (by rw [upd_same, e0 h]; rfl) s2 e2 _ fun p3 H3 s3 n3 e3 => by
          (repeat walk_at "rd")
          exact fin2 p3 H3 s3 n3 e3
      · (repeat walk_at "rd")
        refine op_u_data_widths ⟨bits, part, rfl, fun wp H2 n2 s2 e2 => ?_⟩
        (repeat walk_at "rd")
        exact fin H1 H2 vp wp s1 (by rw [e1, e1' h]; rfl) s2 e2 _ fun p3 H3 s3 n3 e3 => by
          (repeat walk_at "rd")
          exact fin2 p3 H3 s3 n3 e3
def sp_status_bytes (K : PySem.W.Frag) : Sp := fun vs H Q _ => ∃ bits c : Int, vs = [.int bits, .int c] ∧ (1 ≤ bits ∧ bits ≤ 100) ∧ (0 ≤ c ∧ c ≤ 1000) ∧ ∀ H', Same H H' → Q (.int (statusBytes bits c)) H'
@[irreducible] def ip_status_bytes (K : PySem.W.Frag) : Sp := sp_status_bytes K
theorem op_status_bytes {K : PySem.W.Frag} {vs : List V} {H : Hp} {Q : VK} {E : XK} (h : sp_status_bytes K vs H Q E) : ip_status_bytes K vs H Q E := by
  unfold ip_status_bytes
  exact h
theorem un_status_bytes {K : PySem.W.Frag} {vs : List V} {H : Hp} {Q : VK} {E : XK} (h : ip_status_bytes K vs H Q E) : sp_status_bytes K vs H Q E := by
  unfold ip_status_bytes at h
  exact h
theorem ok_status_bytes (T : Tx P w K mg base) : FnOk P w K mg base CX0 4 T.a_status_bytes T.d_status_bytes ["bits", "count"] (ip_status_bytes K) := by
  have G_field_bytes := ok_field_bytes T
  have G_u_status_head := ok_u_status_head T
  have G_u_range_widths := ok_u_range_widths T
  refine T.p_status_bytes.F.ok sc_status_bytes (fun vs H Q E h => ?_) (fun cdv A outer s H vs Q E hr h => ?_)
  · obtain ⟨bits, c, rfl, hb, hc, q⟩ := un_status_bytes h
    rfl
  · obtain ⟨bits, c, rfl, hb, hc, q⟩ := un_status_bytes h
    refine ⟨_, (pss_one (ps_ret (pe_call G_field_bytes (hr.mono (by decide)) rfl T.p_field_bytes.m T.p_field_bytes.F.kp T.p_field_bytes.b .nil passL (pa_cons (pe_lstM (pa_cons (pe_op op_addM (pe_callB (call_sumM rfl) (by rfl) T.n_sum (by decide +kernel) (pa_cons (pe_call G_u_status_head (hr.mono (by decide)) rfl T.p_u_status_head.m T.p_u_status_head.F.kp T.p_u_status_head.b .nil pass0 (pa_cons (pv 0) pa_nil)) pa_nil)) (pe_op op_mulM (pv 1) (pe_callB (call_sumM rfl) (by rfl) T.n_sum (by decide +kernel) (pa_cons (pe_call G_u_range_widths (hr.mono (by decide)) rfl T.p_u_range_widths.m T.p_u_range_widths.F.kp T.p_u_range_widths.b .nil pass0 (pa_cons (pv 0) pa_nil)) pa_nil)))) pa_nil)) pa_nil)))), ?_⟩
    (repeat walk_at "rd")
    refine op_u_status_head ⟨bits, rfl, fun p1 H1 n1 s1 e1 => ?_⟩
    (repeat walk_at "rd")
    refine op_u_range_widths ⟨bits, rfl, fun p2 H2 n2 s2 e2 => ?_⟩
    (repeat walk_at "rd")
    intro p3 H3 n3 s3 e3
    have e : ([1, bits, 4] : List Int).sum + c * ([bits, 8, 8] : List Int).sum = 5 + bits + c * (bits + 16) := by
      simp
      have : bits + (8 + 8) = bits + 16 := by omega
      omega
    rw [e] at e3
    have hcb : 0 ≤ c * (bits + 16) := Int.mul_nonneg hc.1 (by omega)
    refine op_field_bytes ⟨p3, [5 + bits + c * (bits + 16)], rfl, sq_of e3, fun _ => ?_, fun h => ?_⟩
    · refine q_int (q H3 ((s1.trans s2).trans s3)) ?_
      unfold statusBytes sizeF
      simp
    · have h2 : wok [5 + bits + c * (bits + 16)] = true := by
        unfold wok
        simp
        omega
      rw [h2] at h
      cases h
def sp_u_read_data (K : PySem.W.Frag) : Sp := fun vs H Q _ => ∃ (bits : Int) (a : Addr) (ds : List Int), vs = [.int bits, .ref a] ∧ (1 ≤ bits ∧ bits ≤ 100) ∧ SqL K H a (ds.map V.int) ∧ (∀ d ∈ ds, 0 ≤ d ∧ d < 256) ∧ ds.length ≤ 10000 ∧ ∀ v H', Same H H' → PartsAt H' v (readData bits ds) → Q v H'
theorem list4 {l : List Int} (h : l.length = 4) : ∃ a b c d, l = [a, b, c, d] := by
  match l, h with
  | [a, b, c, d], _ => exact ⟨a, b, c, d, rfl⟩
theorem list3 {l : List Int} (h : l.length = 3) : ∃ a b c, l = [a, b, c] := by
  match l, h with
  | [a, b, c], _ => exact ⟨a, b, c, rfl⟩
@[irreducible] def ip_u_read_data (K : PySem.W.Frag) : Sp := sp_u_read_data K
theorem op_u_read_data {K : PySem.W.Frag} {vs : List V} {H : Hp} {Q : VK} {E : XK} (h : sp_u_read_data K vs H Q E) : ip_u_read_data K vs H Q E := by
  unfold ip_u_read_data
  exact h
theorem un_u_read_data {K : PySem.W.Frag} {vs : List V} {H : Hp} {Q : VK} {E : XK} (h : ip_u_read_data K vs H Q E) : sp_u_read_data K vs H Q E := by
  unfold ip_u_read_data at h
  exact h
theorem ok_u_read_data (T : Tx P w K mg base) : FnOk P w K mg base CX0 5 T.a_u_read_data T.d_u_read_data ["bits", "piece"] (ip_u_read_data K) := by
  have G_u_data_widths := ok_u_data_widths T
  have G_unpack := ok_unpack T
  have G_field_bytes := ok_field_bytes T
  have G_u_has_offset := ok_u_has_offset T
  refine T.p_u_read_data.F.ok sc_u_read_data (fun vs H Q E h => ?_) (fun cdv A outer s H vs Q E hr h => ?_)
  · obtain ⟨bits, a, ds, rfl, hb, hA, hd, hl, q⟩ := un_u_read_data h
    rfl
  · obtain ⟨bits, a, ds, rfl, hb, hA, hd, hl, q⟩ := un_u_read_data h
    refine ⟨_, (pss_cons (ps_set (i := 2) sc_u_read_data.nd rfl (Or.inl rfl) (pe_call G_u_data_widths (hr.mono (by decide)) rfl T.p_u_data_widths.m T.p_u_data_widths.F.kp T.p_u_data_widths.b .nil pass0 (pa_cons (pv 0) (pa_cons (pe_gint rfl T.g_WHOLE) pa_nil)))) (pss_cons (ps_ifM (pt_cmpR op_ltM (pe_callB call_lenM (by rfl) T.n_len PySem.boot_len (pa_cons (pv 1) pa_nil)) (pe_call G_field_bytes (hr.mono (by decide)) rfl T.p_field_bytes.m T.p_field_bytes.F.kp T.p_field_bytes.b .nil passL (pa_cons (pv 2) pa_nil)) (nomark _)) (pss_one (ps_ret pe_non)) pss_nil) (pss_cons (ps_asg (pe_call G_unpack (hr.mono (by decide)) rfl T.p_unpack.m T.p_unpack.F.kp T.p_unpack.b .nil passL (pa_cons (pv 2) (pa_cons (pv 1) pa_nil))) (pg_lst rfl (pgs_cons (pg_name (i := 3) sc_u_read_data.nd rfl (Or.inl rfl)) (pgs_cons (pg_name (i := 4) sc_u_read_data.nd rfl (Or.inl rfl)) (pgs_cons (pg_name (i := 5) sc_u_read_data.nd rfl (Or.inl rfl)) (pgs_cons (pg_name (i := 6) sc_u_read_data.nd rfl (Or.inl rfl)) pgs_nil)))))) (pss_cons (ps_set (i := 2) sc_u_read_data.nd rfl (Or.inl rfl) (pe_call G_u_data_widths (hr.mono (by decide)) rfl T.p_u_data_widths.m T.p_u_data_widths.F.kp T.p_u_data_widths.b .nil pass0 (pa_cons (pv 0) (pa_cons (pv 6) pa_nil)))) (pss_cons (ps_set (i := 7) sc_u_read_data.nd rfl (Or.inl rfl) (pe_call G_field_bytes (hr.mono (by decide)) rfl T.p_field_bytes.m T.p_field_bytes.F.kp T.p_field_bytes.b .nil passL (pa_cons (pv 2) pa_nil))) (pss_cons (ps_ifM (pt_cmpR op_leM (pe_callB call_lenM (by rfl) T.n_len PySem.boot_len (pa_cons (pv 1) pa_nil)) (pv 7) (nomark _)) (pss_one (ps_ret pe_non)) pss_nil) (pss_cons (ps_set (i := 8) sc_u_read_data.nd rfl (Or.inl rfl) (pe_ifM (pt_val (pe_call G_u_has_offset (hr.mono (by decide)) rfl T.p_u_has_offset.m T.p_u_has_offset.F.kp T.p_u_has_offset.b .nil pass0 (pa_cons (pv 6) pa_nil))) (pe_ix ix_listM (pe_call G_unpack (hr.mono (by decide)) rfl T.p_unpack.m T.p_unpack.F.kp T.p_unpack.b .nil passL (pa_cons (pv 2) (pa_cons (pv 1) pa_nil))) pe_int (fun _ _ => rfl)) pe_int)) (pss_one (ps_ret (pe_tupM (pa_cons pe_str (pa_cons (pe_cmpR op_eq (pv 4) pe_int (nomark _)) (pa_cons (pv 5) (pa_cons (pv 6) (pa_cons (pv 8) (pa_cons (pe_slice sl_listM (pv 1) (po_some (pv 7)) po_none) pa_nil)))))))))))))))), ?_⟩
    (repeat walk_at "rd")
    refine op_u_data_widths ⟨bits, 0, rfl, fun p1 H1 n1 s1 e1 => ?_⟩
    have ew : dataW bits 0 = [1, 1, bits, 2] := rfl
    rw [ew] at e1
    have hw4 : wok [1, 1, bits, 2] = true := dataW_wok (part := 0) hb.1
    have hle4 : ∀ w ∈ ([1, 1, bits, 2] : List Int), w ≤ 1000 := dataW_le (part := 0) hb.2
    (repeat walk_at "rd")
    refine op_field_bytes ⟨p1, _, rfl, sq_of e1, fun _ => ?_, fun h => by rw [hw4] at h; cases h⟩
    (repeat walk_at "rd")
    refine br_by (fun h => ?_) (fun h => ?_)
    · (repeat walk_at "rd")
      refine q _ _ s1 ?_
      unfold readData
      rw [if_pos h]
      rfl
    (repeat walk_at "rd")
    refine op_unpack ⟨p1, a, _, ds, rfl, sq_of e1, s1.seq hA, Nat.le_of_ble_eq_true rfl, hle4, hd, fun _ p2 H2 n2 s2 e2 => ?_, fun h2 => ?_⟩
    rotate_left
    · unfold unpOk at h2
      rw [hw4, decide_eq_true (by omega)] at h2
      cases h2
    obtain ⟨u0, u1, u2, u3, hu⟩ := list4 (unpF_length [1, 1, bits, 2] ds)
    rw [hu] at e2
    (repeat walk_at "rd")
    refine ⟨p2, _, rfl, sq_of e2, rfl, ?_⟩
    refine ⟨_, _, rfl, ?_⟩
    refine ⟨_, _, rfl, ?_⟩
    refine ⟨_, _, rfl, ?_⟩
    refine ⟨_, _, rfl, ?_⟩
    (repeat walk_at "rd")
    refine op_u_data_widths ⟨bits, u3, rfl, fun p3 H3 n3 s3 e3 => ?_⟩
    have s13 : Same H H3 := (s1.trans s2).trans s3
    have hwk := dataW_wok (part := u3) hb.1
    (repeat walk_at "rd")
    refine op_field_bytes ⟨p3, _, rfl, sq_of e3, fun _ => ?_, fun h => by rw [hwk] at h; cases h⟩
    (repeat walk_at "rd")
    have hg3 : (unpF [1, 1, bits, 2] ds).getD 3 0 = u3 := by rw [hu]; rfl
    have hg2 : (unpF [1, 1, bits, 2] ds).getD 2 0 = u2 := by rw [hu]; rfl
    have hg1 : (unpF [1, 1, bits, 2] ds).getD 1 0 = u1 := by rw [hu]; rfl
    refine br_by (fun h3 => ?_) (fun h3 => ?_)
    · (repeat walk_at "rd")
      refine q _ _ s13 ?_
      unfold readData
      rw [if_neg h, hg3, if_pos h3]
      rfl
    have hsz := size_data (part := u3) hb.1 hb.2
    have fin : ∀ (off : Int), (if hasOff u3 = true then (unpF (dataW bits u3) ds).getD 4 0 else 0) = off → ∀ (H4 : Hp), Same H H4 → ∀ Q2 : VK, (∀ b H5, H4 b = none → Same H4 H5 → H5 b = some (.lst ((ds.drop (sizeF (dataW bits u3)).toNat).map V.int)) → ∀ t H6, H5 t = none → Same H5 H6 → H6 t = some (.tup [.str "data", .bl (decide (V.int u1 = V.int 1)), .int u2, .int u3, .int off, .ref b]) → Q (.ref t) H6) := fun off ho H4 s4 Q2 b H5 n5 s5 e5 t H6 n6 s6 e6 => by
      refine q _ _ ((s4.trans s5).trans s6) ?_
      unfold readData
      rw [if_neg h, hg3, hg2, hg1, if_neg h3, ho]
      have e : decide (V.int u1 = V.int 1) = decide (u1 = 1) := by
        by_cases h : u1 = 1
        · rw [decide_eq_true h, decide_eq_true (congrArg V.int h)]
        · rw [decide_eq_false h, decide_eq_false fun e => h (V.int.inj e)]
      rw [e] at e6
      exact ⟨t, b, rfl, e6, s6 _ _ e5⟩
    (repeat walk_at "rd")
    refine op_u_has_offset ⟨u3, rfl, ?_⟩
    (repeat walk_at "rd")
    refine br_b (fun ho => ?_) (fun ho => ?_)
    · (repeat walk_at "rd")
      refine op_unpack ⟨p3, a, _, ds, rfl, sq_of e3, s13.seq hA, Nat.le_trans (dataW_len _ _) (by decide), dataW_le hb.2, hd, fun _ p4 H4 n4 s4 e4 => ?_, fun h2 => ?_⟩
      rotate_left
      · unfold unpOk at h2
        rw [hwk, decide_eq_true (by omega)] at h2
        cases h2
      have hl5 : (unpF (dataW bits u3) ds).length = 5 := by
        rw [unpF_length]
        unfold dataW
        rw [if_pos ho]
        rfl
      (repeat walk_at "rd")
      refine rd_ixI (sq_of e4) (by decide) (by rw [hl5]; decide) ?_
      (repeat walk_at "rd")
      refine rd_sl ((s13.trans s4).seq hA) fun b H5 n5 s5 e5 => ?_
      rw [cutV_from (by omega)] at e5
      (repeat walk_at "rd")
      intro t H6 n6 s6 e6
      exact fin _ (by rw [if_pos ho]; rfl) H4 (s13.trans s4) Q b H5 n5 s5 e5 t H6 n6 s6 e6
    · (repeat walk_at "rd")
      refine rd_sl (s13.seq hA) fun b H5 n5 s5 e5 => ?_
      rw [cutV_from (by omega)] at e5
      (repeat walk_at "rd")
      intro t H6 n6 s6 e6
      exact fin 0 (by rw [if_neg (by rw [ho]; decide)]) H3 s13 Q b H5 n5 s5 e5 t H6 n6 s6 e6
def sp_u_read_status (K : PySem.W.Frag) : Sp := fun vs H Q _ => ∃ (bits : Int) (a : Addr) (ds : List Int), vs = [.int bits, .ref a] ∧ (1 ≤ bits ∧ bits ≤ 100) ∧ SqL K H a (ds.map V.int) ∧ (∀ d ∈ ds, 0 ≤ d ∧ d < 256) ∧ ds.length ≤ 10000 ∧ ∀ v H', Same H H' → PartsAt H' v (readStatus bits ds) → Q v H'
theorem rg3 {c : Nat} (h : c ≤ 8) : RgC 0 (3 * (c : Int)) 3 c := by
  have h9 : c = 0 ∨ c = 1 ∨ c = 2 ∨ c = 3 ∨ c = 4 ∨ c = 5 ∨ c = 6 ∨ c = 7 ∨ c = 8 := by omega
  rcases h9 with e | e | e | e | e | e | e | e | e <;> subst e <;> exact ⟨by decide, by decide, by decide +kernel, by decide +kernel⟩
theorem flat_rep (ws : List Int) (n : Nat) : (List.replicate n (ws.map V.int)).flatten = (List.replicate n ws).flatten.map V.int := by
  rw [List.map_flatten, List.map_replicate]
theorem rep_len (n : Nat) (a b c : Int) : ((List.replicate n [a, b, c]).flatten).length = 3 * n := by
  rw [List.length_flatten, List.map_replicate, List.sum_replicate_nat]
  show n * 3 = 3 * n
  omega
theorem rep_sum (n : Nat) (a b c : Int) : ((List.replicate n [a, b, c]).flatten).sum = (n : Int) * (a + b + c) := by
  induction n with
  | zero => simp
  | succ n ih =>
    rw [List.replicate_succ, List.flatten_cons, List.sum_append, ih, Int.natCast_succ, Int.add_mul, Int.one_mul]
    have e : ([a, b, c] : List Int).sum = a + b + c := by
      simp
      omega
    rw [e]
    omega
theorem size_status (bits : Int) (n : Nat) : sizeF (statusW bits n) = statusBytes bits n := by
  unfold sizeF statusW statusBytes
  rw [List.sum_append, rep_sum]
  have e : ([1, bits, 4] : List Int).sum = 5 + bits := by
    simp
    omega
  have e2 : bits + 8 + 8 = bits + 16 := by omega
  rw [e, e2]
theorem statusW_wok {bits : Int} {n : Nat} (h : 1 ≤ bits) : wok (statusW bits n) = true := by
  rw [wok_iff]
  intro w hw
  unfold statusW at hw
  rcases List.mem_append.mp hw with hw | hw
  · simp at hw
    omega
  · obtain ⟨l, hl, hw⟩ := List.mem_flatten.mp hw
    rw [(List.mem_replicate.mp hl).2] at hw
    simp at hw
    omega
theorem statusW_le {bits : Int} {n : Nat} (h : bits ≤ 100) : ∀ w ∈ statusW bits n, w ≤ 1000 := by
  intro w hw
  unfold statusW at hw
  rcases List.mem_append.mp hw with hw | hw
  · simp at hw
    omega
  · obtain ⟨l, hl, hw⟩ := List.mem_flatten.mp hw
    rw [(List.mem_replicate.mp hl).2] at hw
    simp at hw
    omega
theorem statusW_len (bits : Int) (n : Nat) : (statusW bits n).length = 3 + 3 * n := by
  unfold statusW
  rw [List.length_append, rep_len]
  rfl
theorem rows_at {H : Hp} {D : Addr} {ps : List Addr} {told : List Int} {n : Nat} (h1 : H D = some (.lst (ps.map V.ref))) (h2 : ps.length = n) (h3 : ∀ i p, ps[i]? = some p → H p = some (.tup (rowV (told.getD (3 * i) 0, told.getD (3 * i + 1) 0, told.getD (3 * i + 2) 0)))) : RowsAt H D (rowsOf told n) := by
  refine ⟨ps, h1, by unfold rowsOf; rw [List.length_map, List.length_range, h2], fun i p r e1 e2 => ?_⟩
  have hi := (List.getElem?_eq_some_iff.mp e1).1
  unfold rowsOf at e2
  rw [List.getElem?_map, List.getElem?_range (by omega)] at e2
  rw [← Option.some.inj e2]
  exact h3 i p e1
@[irreducible] def ip_u_read_status (K : PySem.W.Frag) : Sp := sp_u_read_status K
theorem op_u_read_status {K : PySem.W.Frag} {vs : List V} {H : Hp} {Q : VK} {E : XK} (h : sp_u_read_status K vs H Q E) : ip_u_read_status K vs H Q E := by
  unfold ip_u_read_status
  exact h
theorem un_u_read_status {K : PySem.W.Frag} {vs : List V} {H : Hp} {Q : VK} {E : XK} (h : ip_u_read_status K vs H Q E) : sp_u_read_status K vs H Q E := by
  unfold ip_u_read_status at h
  exact h
theorem ok_u_read_status (T : Tx P w K mg base) : FnOk P w K mg base CX0 5 T.a_u_read_status T.d_u_read_status ["bits", "piece"] (ip_u_read_status K) := by
  have G_u_status_head := ok_u_status_head T
  have G_unpack := ok_unpack T
  have G_field_bytes := ok_field_bytes T
  have G_status_bytes := ok_status_bytes T
  have G_u_range_widths := ok_u_range_widths T
  refine T.p_u_read_status.F.ok sc_u_read_status (fun vs H Q E h => ?_) (fun cdv A outer s H vs Q E hr h => ?_)
  · obtain ⟨bits, a, ds, rfl, hb, hA, hd, hl, q⟩ := un_u_read_status h
    rfl
  · obtain ⟨bits, a, ds, rfl, hb, hA, hd, hl, q⟩ := un_u_read_status h
    refine ⟨_, (pss_cons (ps_set (i := 2) sc_u_read_status.nd rfl (Or.inl rfl) (pe_call G_u_status_head (hr.mono (by decide)) rfl T.p_u_status_head.m T.p_u_status_head.F.kp T.p_u_status_head.b .nil pass0 (pa_cons (pv 0) pa_nil))) (pss_cons (ps_ifM (pt_cmpR op_ltM (pe_callB call_lenM (by rfl) T.n_len PySem.boot_len (pa_cons (pv 1) pa_nil)) (pe_call G_field_bytes (hr.mono (by decide)) rfl T.p_field_bytes.m T.p_field_bytes.F.kp T.p_field_bytes.b .nil passL (pa_cons (pv 2) pa_nil)) (nomark _)) (pss_one (ps_ret pe_non)) pss_nil) (pss_cons (ps_asg (pe_call G_unpack (hr.mono (by decide)) rfl T.p_unpack.m T.p_unpack.F.kp T.p_unpack.b .nil passL (pa_cons (pv 2) (pa_cons (pv 1) pa_nil))) (pg_lst rfl (pgs_cons (pg_name (i := 3) sc_u_read_status.nd rfl (Or.inl rfl)) (pgs_cons (pg_name (i := 4) sc_u_read_status.nd rfl (Or.inl rfl)) (pgs_cons (pg_name (i := 5) sc_u_read_status.nd rfl (Or.inl rfl)) pgs_nil))))) (pss_cons (ps_ifM (PW.pt (pw_orM (pt_cmpR op_gtM (pv 5) (pe_gint rfl T.g_MOST_MISSING) (nomark _)) (pw_or1 (pt_cmpR op_ne (pe_callB call_lenM (by rfl) T.n_len PySem.boot_len (pa_cons (pv 1) pa_nil)) (pe_call G_status_bytes (hr.mono (by decide)) rfl T.p_status_bytes.m T.p_status_bytes.F.kp T.p_status_bytes.b .nil pass0 (pa_cons (pv 0) (pa_cons (pv 5) pa_nil))) (nomark _))))) (pss_one (ps_ret pe_non)) pss_nil) (pss_cons (ps_set (i := 6) sc_u_read_status.nd rfl (Or.inr rfl) (pe_slice sl_listM (pe_call G_unpack (hr.mono (by decide)) rfl T.p_unpack.m T.p_unpack.F.kp T.p_unpack.b .nil passL (pa_cons (pe_op op_catM (pv 2) (pe_op op_repM (pe_call G_u_range_widths (hr.mono (by decide)) rfl T.p_u_range_widths.m T.p_u_range_widths.F.kp T.p_u_range_widths.b .nil pass0 (pa_cons (pv 0) pa_nil)) (pv 5))) (pa_cons (pv 1) pa_nil))) (po_some pe_int) po_none)) (pss_cons (ps_setLcTR3 (i := 7) rfl sc_u_read_status.nd rfl rfl (sw_true rfl rfl rfl (by decide +kernel)) rfl T.n_range (pa_cons pe_int (pa_cons (pe_callB call_lenM (by rfl) T.n_len PySem.boot_len (pa_cons (pv 6) pa_nil)) (pa_cons pe_int pa_nil))) (blkOk_by (own := [("at", 8)]) (N := ["bits", "piece", "widths", "_", "upto", "count", "told", "missing", "at"]) (sc := defScope S_u_read_status) (by decide +kernel)) (fun _ _ _ _ _ => (pg_name (i := 8) sc_u_read_status.nd rfl (Or.inl rfl))) (fun _ _ _ _ _ => (pe_tupM (pa_cons (pe_ix (ix_listK (K := K) rfl) (pv 6) (pv 8) (fun _ _ => rfl)) (pa_cons (pe_ix (ix_listK (K := K) rfl) (pv 6) (pe_op op_addM (pv 8) pe_int) (fun _ _ => rfl)) (pa_cons (pe_ix (ix_listK (K := K) rfl) (pv 6) (pe_op op_addM (pv 8) pe_int) (fun _ _ => rfl)) pa_nil)))))) (pss_one (ps_ret (pe_tupM (pa_cons pe_str (pa_cons (pv 4) (pa_cons (pv 7) pa_nil)))))))))))), ?_⟩
    (repeat walk_at "rd")
    refine op_u_status_head ⟨bits, rfl, fun p1 H1 n1 s1 e1 => ?_⟩
    have hw3 : wok [1, bits, 4] = true := by
      rw [wok_iff]
      intro w hw
      simp at hw
      omega
    have hle3 : ∀ w ∈ ([1, bits, 4] : List Int), w ≤ 1000 := by
      intro w hw
      simp at hw
      omega
    (repeat walk_at "rd")
    refine op_field_bytes ⟨p1, _, rfl, sq_of e1, fun _ => ?_, fun h => by rw [hw3] at h; cases h⟩
    (repeat walk_at "rd")
    refine br_by (fun h => ?_) (fun h => ?_)
    · (repeat walk_at "rd")
      refine q _ _ s1 ?_
      unfold readStatus
      rw [if_pos h]
      rfl
    (repeat walk_at "rd")
    refine op_unpack ⟨p1, a, _, ds, rfl, sq_of e1, s1.seq hA, Nat.le_of_ble_eq_true rfl, hle3, hd, fun _ p2 H2 n2 s2 e2 => ?_, fun h2 => ?_⟩
    rotate_left
    · unfold unpOk at h2
      rw [hw3, decide_eq_true (by omega)] at h2
      cases h2
    have hu0 : ∃ u0 u1 u2, unpF [1, bits, 4] ds = [u0, u1, u2] ∧ 0 ≤ u2 ∧ u2 < 16 := ⟨_, _, _, rfl, Int.emod_nonneg _ (by decide), Int.emod_lt_of_pos _ (by decide)⟩
    obtain ⟨u0, u1, u2, hu, hc0, hc16⟩ := hu0
    rw [hu] at e2
    (repeat walk_at "rd")
    refine ⟨p2, _, rfl, sq_of e2, rfl, ?_⟩
    refine ⟨_, _, rfl, ?_⟩
    refine ⟨_, _, rfl, ?_⟩
    refine ⟨_, _, rfl, ?_⟩
    (repeat walk_at "rd")
    have hg2 : (unpF [1, bits, 4] ds).getD 2 0 = u2 := by rw [hu]; rfl
    have hg1 : (unpF [1, bits, 4] ds).getD 1 0 = u1 := by rw [hu]; rfl
    have s12 : Same H H2 := s1.trans s2
    refine br_by (fun h8 => ?_) (fun h8 => ?_)
    · (repeat walk_at "rd")
      refine q _ _ s12 ?_
      unfold readStatus
      rw [if_neg h, hg2, if_pos (.inl h8)]
      rfl
    (repeat walk_at "rd")
    refine op_status_bytes ⟨bits, u2, rfl, hb, ⟨hc0, by omega⟩, fun H3 s3 => ?_⟩
    have s13 : Same H H3 := s12.trans s3
    (repeat walk_at "rd")
    refine br_enby (fun hne => ?_) (fun heq => ?_)
    · (repeat walk_at "rd")
      refine q _ _ s13 ?_
      unfold readStatus
      rw [if_neg h, hg2, if_pos (.inr hne)]
      rfl
    have hn : ∃ n : Nat, u2 = n ∧ n ≤ 8 := ⟨u2.toNat, by omega, by omega⟩
    obtain ⟨n, hn, hn8⟩ := hn
    subst hn
    (repeat walk_at "rd")
    refine op_u_range_widths ⟨bits, rfl, fun p4 H4 n4 s4 e4 => ?_⟩
    (repeat walk_at "rd")
    refine rd_rep e4 (by omega) (by omega) (by rw [List.length_map]; show 3 * _ ≤ _; omega) fun p5 H5 n5 s5 e5 => ?_
    rw [flat_rep, Int.toNat_natCast] at e5
    have e15 : H5 p1 = some (.lst (([1, bits, 4] : List Int).map V.int)) := s5 _ _ (s4 _ _ (s3 _ _ (s2 _ _ e1)))
    refine rd_cat e15 e5 (by rw [List.length_map, List.length_map, rep_len]; show 3 + _ ≤ _; omega) fun p6 H6 n6 s6 e6 => ?_
    rw [← List.map_append] at e6
    have s16 : Same H H6 := ((s13.trans s4).trans s5).trans s6
    have hW := statusW_wok (n := n) hb.1
    have hsz := size_status bits n
    (repeat walk_at "rd")
    refine op_unpack ⟨p6, a, statusW bits n, ds, rfl, sq_of e6, s16.seq hA, by rw [statusW_len]; omega, statusW_le hb.2, hd, fun _ p7 H7 n7 s7 e7 => ?_, fun h2 => ?_⟩
    rotate_left
    · unfold unpOk at h2
      rw [hW, decide_eq_true (by omega)] at h2
      cases h2
    (repeat walk_at "rd")
    refine rd_sl (sq_of e7) fun p8 H8 n8 s8 e8 => ?_
    rw [cutV_from (by decide)] at e8
    generalize htold : (unpF (statusW bits n) ds).drop (3 : Int).toNat = told at e8
    have hl3 : told.length = 3 * n := by
      rw [← htold, List.length_drop, unpF_length, statusW_len]
      show 3 + 3 * n - 3 = _
      omega
    (repeat walk_at "rd")
    refine rd_lcTR3 ?_
    (repeat walk_at "rd")
    refine ⟨0, _, 3, n, fun i => rowV (told.getD (3 * i) 0, told.getD (3 * i + 1) 0, told.getD (3 * i + 2) 0), rfl, by rw [hl3]; exact rg3 hn8, by omega, fun i hi H' s' => ?_, fun D H9 ps n9 s9 e9 hps ht => ?_⟩
    · have g0 : ((0 : Int) + (i : Int) * 3).toNat = 3 * i := by omega
      have g1 : ((0 : Int) + (i : Int) * 3 + 1).toNat = 3 * i + 1 := by omega
      have g2 : ((0 : Int) + (i : Int) * 3 + 2).toNat = 3 * i + 2 := by omega
      (repeat walk_at "rd")
      refine rd_ixI (s'.seq (sq_of e8)) (by omega) (by omega) ?_
      (repeat walk_at "rd")
      refine rd_ixI (s'.seq (sq_of e8)) (by omega) (by omega) ?_
      (repeat walk_at "rd")
      refine rd_ixI (s'.seq (sq_of e8)) (by omega) (by omega) ?_
      rw [g0, g1, g2]
      (repeat walk_at "rd")
      intro t H2' n2' s2' e2'
      exact ⟨s2', t, rfl, e2'⟩
    · (repeat walk_at "rd")
      intro t H10 n10 s10 e10
      refine q _ _ ((((s16.trans s7).trans s8).trans s9).trans s10) ?_
      unfold readStatus
      rw [if_neg h, hg2, hg1, if_neg (by omega), Int.toNat_natCast]
      refine ⟨t, D, rfl, e10, RowsAt.mono ?_ s10⟩
      rw [show (unpF (statusW bits n) ds).drop 3 = told from htold]
      exact rows_at e9 hps ht
def sp_read_piece (K : PySem.W.Frag) : Sp := fun vs H Q _ => ∃ (bits : Int) (a : Addr) (ds : List Int), vs = [.int bits, .ref a] ∧ (1 ≤ bits ∧ bits ≤ 100) ∧ SqL K H a (ds.map V.int) ∧ (∀ d ∈ ds, 0 ≤ d ∧ d < 256) ∧ ds.length ≤ 10000 ∧ ∀ v H', Same H H' → PartsAt H' v (readF bits ds) → Q v H'
@[irreducible] def ip_read_piece (K : PySem.W.Frag) : Sp := sp_read_piece K
theorem op_read_piece {K : PySem.W.Frag} {vs : List V} {H : Hp} {Q : VK} {E : XK} (h : sp_read_piece K vs H Q E) : ip_read_piece K vs H Q E := by
  unfold ip_read_piece
  exact h
theorem un_read_piece {K : PySem.W.Frag} {vs : List V} {H : Hp} {Q : VK} {E : XK} (h : ip_read_piece K vs H Q E) : sp_read_piece K vs H Q E := by
  unfold ip_read_piece at h
  exact h
theorem ok_read_piece (T : Tx P w K mg base) : FnOk P w K mg base CX0 6 T.a_read_piece T.d_read_piece ["bits", "piece"] (ip_read_piece K) := by
  have G_u_read_status := ok_u_read_status T
  have G_u_read_data := ok_u_read_data T
  have G_unpack := ok_unpack T
  refine T.p_read_piece.F.ok sc_read_piece (fun vs H Q E h => ?_) (fun cdv A outer s H vs Q E hr h => ?_)
  · obtain ⟨bits, a, ds, rfl, hb, hA, hd, hl, q⟩ := un_read_piece h
    rfl
  · obtain ⟨bits, a, ds, rfl, hb, hA, hd, hl, q⟩ := un_read_piece h
    refine ⟨_, (pss_cons (ps_ifM (pt_cmpR op_eq (pe_callB call_lenM (by rfl) T.n_len PySem.boot_len (pa_cons (pv 1) pa_nil)) pe_int (nomark _)) (pss_one (ps_ret pe_non)) pss_nil) (pss_cons (ps_ifM (pt_cmpR op_eq (pe_ix ix_listM (pe_call G_unpack (hr.mono (by decide)) rfl T.p_unpack.m T.p_unpack.F.kp T.p_unpack.b .nil passL (pa_cons (pe_lstM (pa_cons pe_int pa_nil)) (pa_cons (pv 1) pa_nil))) pe_int (fun _ _ => rfl)) (pe_gint rfl T.g_DATA) (nomark _)) (pss_one (ps_ret (pe_call G_u_read_data (hr.mono (by decide)) rfl T.p_u_read_data.m T.p_u_read_data.F.kp T.p_u_read_data.b .nil pass0 (pa_cons (pv 0) (pa_cons (pv 1) pa_nil))))) pss_nil) (pss_one (ps_ret (pe_call G_u_read_status (hr.mono (by decide)) rfl T.p_u_read_status.m T.p_u_read_status.F.kp T.p_u_read_status.b .nil pass0 (pa_cons (pv 0) (pa_cons (pv 1) pa_nil))))))), ?_⟩
    (repeat walk_at "rd")
    refine br_eby (fun h => ?_) (fun h => ?_)
    · (repeat walk_at "rd")
      refine q _ _ (Same.refl _) ?_
      unfold readF
      rw [if_pos (by omega)]
      rfl
    have h0 : ds.length ≠ 0 := by omega
    (repeat walk_at "rd")
    intro p1 H1 n1 s1 e1
    (repeat walk_at "rd")
    refine op_unpack ⟨p1, a, [1], ds, rfl, sq_of e1, s1.seq hA, Nat.le_of_ble_eq_true rfl, fun w hw => by simp at hw; omega, hd, fun _ p2 H2 n2 s2 e2 => ?_, fun h2 => ?_⟩
    rotate_left
    · unfold unpOk at h2
      have e : sizeF [1] = 1 := by decide
      rw [e, decide_eq_true (by omega)] at h2
      cases h2
    have hu : ∃ u, unpF [1] ds = [u] := ⟨_, rfl⟩
    obtain ⟨u, hu⟩ := hu
    rw [hu] at e2
    (repeat walk_at "rd")
    refine rd_ixI (ns := [u]) (sq_of e2) (by decide) (by show (0 : Int) < 1; decide) ?_
    (repeat walk_at "rd")
    refine br_eby (fun h1 => ?_) (fun h1 => ?_)
    · (repeat walk_at "rd")
      refine op_u_read_data ⟨bits, a, ds, rfl, hb, (s1.trans s2).seq hA, hd, hl, fun v H' s' hv => q v H' ((s1.trans s2).trans s') ?_⟩
      unfold readF
      rw [if_neg h0, hu, if_pos (show ([u] : List Int).getD 0 0 = 0 from h1)]
      exact hv
    · (repeat walk_at "rd")
      refine op_u_read_status ⟨bits, a, ds, rfl, hb, (s1.trans s2).seq hA, hd, hl, fun v H' s' hv => q v H' ((s1.trans s2).trans s') ?_⟩
      unfold readF
      rw [if_neg h0, hu, if_neg (show ¬ ([u] : List Int).getD 0 0 = 0 from h1)]
      exact hv
end
/-! status pieces, and the law's own reading -/
theorem okF_app {ws us xs ys : List Int} (h1 : okF ws xs = true) (h2 : okF us ys = true) : okF (ws ++ us) (xs ++ ys) = true := by
  unfold okF at *
  rw [Bool.and_eq_true, decide_eq_true_eq] at *
  rw [List.length_append, List.length_append, List.zip_append h1.1, List.all_append, h1.2, h2.2]
  exact ⟨by omega, rfl⟩
theorem rows_flat (bits : Int) (ms : List (Int × Int × Int)) : (List.replicate ms.length [bits, 8, 8]).flatten = ms.flatMap fun _ => [bits, 8, 8] := by
  induction ms with
  | nil => rfl
  | cons m r ih =>
    rw [List.length_cons, List.replicate_succ, List.flatten_cons, List.flatMap_cons, ih]
def RowsOk (ms : List (Int × Int × Int)) : Prop := ∀ r ∈ ms, (0 ≤ r.2.1 ∧ r.2.1 < 256) ∧ (0 ≤ r.2.2 ∧ r.2.2 < 256)
theorem rows_ok {bits : Int} (hb : 1 ≤ bits) : ∀ ms : List (Int × Int × Int), RowsOk ms → okF (ms.flatMap fun _ => [bits, 8, 8]) (ms.flatMap fun r => [r.1 % 2 ^ bits.toNat, r.2.1, r.2.2]) = true
  | [], _ => rfl
  | r :: ms, h => by
    rw [List.flatMap_cons, List.flatMap_cons]
    refine okF_app ?_ (rows_ok hb ms fun x hx => h x (List.mem_cons_of_mem _ hx))
    have hr := h r List.mem_cons_self
    have e8 : (2 : Int) ^ (8 : Int).toNat = 256 := by decide
    rw [okF_cons, okF_cons, okF_cons, okF_nil, okP_lit hb (Int.emod_nonneg _ (Int.ne_of_gt (pow_nn _))) (Int.emod_lt_of_pos _ (pow_nn _)), okP_lit (by decide) hr.1.1 (by rw [e8]; exact hr.1.2), okP_lit (by decide) hr.2.1 (by rw [e8]; exact hr.2.2)]
    rfl
theorem status_ok {bits upto : Int} {ms : List (Int × Int × Int)} (hb : 1 ≤ bits) (hm : RowsOk ms) (hn : ms.length ≤ 8) : okF (statusW bits ms.length) (statusVals bits upto ms) = true := by
  unfold statusW statusVals
  rw [rows_flat]
  refine okF_app ?_ (rows_ok hb ms hm)
  have e1 : (2 : Int) ^ (1 : Int).toNat = 2 := by decide
  have e4 : (2 : Int) ^ (4 : Int).toNat = 16 := by decide
  rw [okF_cons, okF_cons, okF_cons, okF_nil, okP_lit (by decide) (by decide) (by decide), okP_lit hb (Int.emod_nonneg _ (Int.ne_of_gt (pow_nn _))) (Int.emod_lt_of_pos _ (pow_nn _)), okP_lit (by decide) (by omega) (by rw [e4]; omega)]
  rfl
theorem rows_back (b : Int) : ∀ (ms : List (Int × Int × Int)), rowsOf (ms.flatMap fun r => [r.1 % b, r.2.1, r.2.2]) ms.length = ms.map fun r => (r.1 % b, r.2.1, r.2.2)
  | [] => rfl
  | r :: ms => by
    have ih := rows_back b ms
    unfold rowsOf at *
    rw [List.length_cons, List.range_succ_eq_map, List.map_cons, List.map_map, List.map_cons, ← ih]
    congr 1
/-- a status piece, read -/
theorem read_status {bits upto : Int} {ms : List (Int × Int × Int)} (hb : 1 ≤ bits) (hm : RowsOk ms) (hn : ms.length ≤ 8) (hsz : sizeF (statusW bits ms.length) = statusBytes bits ms.length) (hW : wok (statusW bits ms.length) = true) :
    readF bits (statusF bits upto ms) = some (.status (upto % 2 ^ bits.toNat) (ms.map fun r => (r.1 % 2 ^ bits.toNat, r.2.1, r.2.2))) := by
  have hok := status_ok (upto := upto) hb hm hn
  have hl := packF_length (vs := statusVals bits upto ms) hW
  have u1 : unpF [1] (statusF bits upto ms) = [1] := by
    have e : statusW bits ms.length = [1] ++ ([bits, 4] ++ (List.replicate ms.length [bits, 8, 8]).flatten) := rfl
    have k := unp_pack_pre (ws := [1]) (us := [bits, 4] ++ (List.replicate ms.length [bits, 8, 8]).flatten) (vs := statusVals bits upto ms) (es := []) (by rw [← e]; exact hok) (fun d h => by cases h)
    rw [List.append_nil, ← e] at k
    exact k
  have u3 : unpF [1, bits, 4] (statusF bits upto ms) = [1, upto % 2 ^ bits.toNat, (ms.length : Int)] := by
    have k := unp_pack_pre (ws := [1, bits, 4]) (us := (List.replicate ms.length [bits, 8, 8]).flatten) (vs := statusVals bits upto ms) (es := []) hok (fun d h => by cases h)
    rw [List.append_nil] at k
    exact k
  have ua : unpF (statusW bits ms.length) (statusF bits upto ms) = statusVals bits upto ms := by
    have k := unp_pack (es := []) hok
    rw [List.append_nil] at k
    exact k
  have h0 : sizeF [1, bits, 4] ≤ sizeF (statusW bits ms.length) ∧ 1 ≤ sizeF (statusW bits ms.length) := by
    rw [hsz]
    have hp : 0 ≤ (ms.length : Int) * (bits + 16) := Int.mul_nonneg (by omega) (by omega)
    unfold sizeF statusBytes
    simp
    omega
  have hl2 : ((statusF bits upto ms).length : Int) = sizeF (statusW bits ms.length) := hl
  unfold readF
  rw [if_neg (by omega), u1, if_neg (show ¬ ([1] : List Int).getD 0 0 = 0 by decide)]
  unfold readStatus
  rw [u3]
  show (if _ then none else if 8 < (ms.length : Int) ∨ ((statusF bits upto ms).length : Int) ≠ statusBytes bits ms.length then none else some (Parts.status (upto % 2 ^ bits.toNat) (rowsOf ((unpF (statusW bits (ms.length : Int).toNat) (statusF bits upto ms)).drop 3) (ms.length : Int).toNat))) = _
  rw [if_neg (by omega), if_neg (by omega), Int.toNat_natCast, ua]
  have e : (statusVals bits upto ms).drop 3 = ms.flatMap fun r => [r.1 % 2 ^ bits.toNat, r.2.1, r.2.2] := rfl
  rw [e, rows_back]
/-! bit by bit -/
def bitB (ds : List Int) (at' : Nat) : Int := ds.getD (at' / 8) 0 / 2 ^ (7 - at' % 8) % 2
def fieldB (ds : List Int) (at' w : Nat) : Int := (List.range w).foldl (fun v k => 2 * v + bitB ds (at' + k)) 0
theorem num_split (ds : List Int) (hd : ∀ d ∈ ds, 0 ≤ d ∧ d < 256) (i : Nat) (hi : i < ds.length) : num256 ds / 2 ^ (8 * (ds.length - 1 - i)) % 256 = ds.getD i 0 := by
  have e : ds = ds.take i ++ [ds[i]] ++ ds.drop (i + 1) := by
    rw [List.append_assoc, List.singleton_append, ← List.drop_eq_getElem_cons hi, List.take_append_drop]
  have hb := num256_bound (ds.drop (i + 1)) fun d h => hd d (List.mem_of_mem_drop h)
  have hx := hd ds[i] (List.getElem_mem hi)
  have e2 : num256 ds = (num256 (ds.take i) * 2 ^ 8 + ds[i]) * 2 ^ (8 * (ds.drop (i + 1)).length) + num256 (ds.drop (i + 1)) := by
    rw [← num256_snoc, ← num256_app, ← e]
  have e3 : (ds.drop (i + 1)).length = ds.length - 1 - i := by rw [List.length_drop]; omega
  rw [e3] at hb e2
  have e8 : (2 : Int) ^ 8 = 256 := by decide
  rw [e2, Int.add_comm, Int.add_mul_ediv_right _ _ (Int.ne_of_gt (pow_nn _)), Int.ediv_eq_zero_of_lt hb.1 hb.2, Int.zero_add, e8, List.getD_eq_getElem?_getD, List.getElem?_eq_getElem hi]
  show _ = ds[i]
  omega
/-- a bit of the bytes is a bit of their number -/
theorem bit_num (ds : List Int) (hd : ∀ d ∈ ds, 0 ≤ d ∧ d < 256) (p : Nat) (hp : p < 8 * ds.length) : bitB ds p = num256 ds / 2 ^ (8 * ds.length - 1 - p) % 2 := by
  unfold bitB
  have hi : p / 8 < ds.length := by omega
  rw [← num_split ds hd (p / 8) hi]
  have e : 8 * ds.length - 1 - p = 8 * (ds.length - 1 - p / 8) + (7 - p % 8) := by omega
  rw [e, pow_add2, ← Int.ediv_ediv_of_nonneg (Int.le_of_lt (pow_nn _))]
  generalize num256 ds / 2 ^ (8 * (ds.length - 1 - p / 8)) = x
  have h7 : 7 - p % 8 ≤ 7 := by omega
  generalize 7 - p % 8 = k at h7
  have hk : k = 0 ∨ k = 1 ∨ k = 2 ∨ k = 3 ∨ k = 4 ∨ k = 5 ∨ k = 6 ∨ k = 7 := by omega
  rcases hk with e | e | e | e | e | e | e | e <;> subst e <;> simp <;> omega
theorem field_num (ds : List Int) (hd : ∀ d ∈ ds, 0 ≤ d ∧ d < 256) (p : Nat) : ∀ w : Nat, p + w ≤ 8 * ds.length → fieldB ds p w = num256 ds / 2 ^ (8 * ds.length - p - w) % 2 ^ w := by
  intro w
  induction w with
  | zero =>
    intro _
    show (0 : Int) = _ % 2 ^ 0
    simp
  | succ w ih =>
    intro h
    unfold fieldB at *
    rw [List.range_succ, List.foldl_append, ih (by omega)]
    show 2 * (num256 ds / 2 ^ (8 * ds.length - p - w) % 2 ^ w) + bitB ds (p + w) = _
    rw [bit_num ds hd (p + w) (by omega)]
    have e1 : 8 * ds.length - p - w = (8 * ds.length - p - (w + 1)) + 1 := by omega
    have e2 : 8 * ds.length - 1 - (p + w) = 8 * ds.length - p - (w + 1) := by omega
    rw [e1, e2, Int.pow_succ, ← Int.ediv_ediv_of_nonneg (Int.le_of_lt (pow_nn _)), Int.pow_succ]
    generalize num256 ds / 2 ^ (8 * ds.length - p - (w + 1)) = x
    generalize hM : (2 : Int) ^ w = M
    have hM0 : 0 < M := by rw [← hM]; exact pow_nn _
    have q1 := Int.mul_ediv_add_emod x (M * 2)
    have q2 := Int.mul_ediv_add_emod (x / 2) M
    have ed : x / (M * 2) = x / 2 / M := by
      rw [Int.mul_comm M 2, Int.ediv_ediv_of_nonneg (by decide)]
    rw [ed] at q1
    generalize hy : x / 2 / M = y at *
    have e5 : M * 2 * y = 2 * (M * y) := by rw [Int.mul_comm M 2, Int.mul_assoc]
    rw [e5] at q1
    omega
/-- fields of the first bytes, told by the whole list -/
theorem field_fld {ws us ds : List Int} {w : Int} (hw : ∀ x ∈ ws ++ [w], 0 ≤ x) (hd : ∀ d ∈ ds, 0 ≤ d ∧ d < 256) (hl : sizeF (ws ++ w :: us) ≤ (ds.length : Int)) (hu : ∀ x ∈ us, 0 ≤ x) :
    (unpF (ws ++ w :: us) ds).getD ws.length 0 = fieldB ds ws.sum.toNat w.toNat := by
  have h1 : 0 ≤ ws.sum := sum_nn fun x h => hw x (List.mem_append_left _ h)
  have h2 := hw w (List.mem_append_right _ List.mem_cons_self)
  have h3 : 0 ≤ us.sum := sum_nn hu
  have e0 : (ws ++ w :: us).sum = ws.sum + w + us.sum := by rw [List.sum_append, List.sum_cons]; omega
  unfold unpF
  generalize hs : sizeF (ws ++ w :: us) = s at *
  have hs2 : 0 ≤ s ∧ ws.sum + w + us.sum ≤ 8 * s := by
    unfold sizeF at hs
    rw [e0] at hs
    omega
  rw [fldF_app]
  rw [List.getD_eq_getElem?_getD, List.getElem?_append_right (by rw [fldF_length]; omega), fldF_length, Nat.sub_self]
  show num256 (ds.take s.toNat) / 2 ^ (8 * s - ws.sum - w).toNat % 2 ^ w.toNat = _
  have e : ds = ds.take s.toNat ++ ds.drop s.toNat := (List.take_append_drop _ _).symm
  have hb := num256_bound (ds.drop s.toNat) fun d h => hd d (List.mem_of_mem_drop h)
  have hdl : (ds.drop s.toNat).length = ds.length - s.toNat := List.length_drop ..
  rw [field_num ds hd _ _ (by omega)]
  have e2 : num256 ds = num256 (ds.take s.toNat) * 2 ^ (8 * (ds.drop s.toNat).length) + num256 (ds.drop s.toNat) := by rw [← num256_app, ← e]
  have e3 : 8 * ds.length - ws.sum.toNat - w.toNat = 8 * (ds.drop s.toNat).length + (8 * s - ws.sum - w).toNat := by omega
  rw [e3, pow_add2, ← Int.ediv_ediv_of_nonneg (Int.le_of_lt (pow_nn _)), e2, Int.add_comm, Int.add_mul_ediv_right _ _ (Int.ne_of_gt (pow_nn _)), Int.ediv_eq_zero_of_lt hb.1 hb.2, Int.zero_add]

def lawRead (bits : Int) (ds : List Int) : Option Parts :=
  if ds.length = 0 then none
  else if 128 ≤ ds.getD 0 0 then
    (if (ds.length : Int) < statusBytes bits 0 then none
    else if 8 < fieldB ds (1 + bits).toNat 4 ∨ (ds.length : Int) ≠ statusBytes bits (fieldB ds (1 + bits).toNat 4) then none
    else some (.status (fieldB ds 1 bits.toNat) ((List.range (fieldB ds (1 + bits).toNat 4).toNat).map fun (k : Nat) => (fieldB ds (5 + bits + k * (bits + 16)).toNat bits.toNat, fieldB ds (5 + bits + k * (bits + 16) + bits).toNat 8, fieldB ds (5 + bits + k * (bits + 16) + bits + 8).toNat 8))))
  else
    (if (ds.length : Int) < (4 + bits + 7) / 8 then none
    else if (ds.length : Int) ≤ (if 1 < fieldB ds (2 + bits).toNat 2 then (12 + bits + 7) / 8 else (4 + bits + 7) / 8) then none
    else some (.data (decide (64 ≤ ds.getD 0 0)) (fieldB ds 2 bits.toNat) (fieldB ds (2 + bits).toNat 2) (if 1 < fieldB ds (2 + bits).toNat 2 then fieldB ds (4 + bits).toNat 8 else 0) (ds.drop (if 1 < fieldB ds (2 + bits).toNat 2 then (12 + bits + 7) / 8 else (4 + bits + 7) / 8).toNat)))
theorem field_bound (ds : List Int) (p : Nat) : ∀ w : Nat, 0 ≤ fieldB ds p w ∧ fieldB ds p w < 2 ^ w := by
  intro w
  induction w with
  | zero => exact ⟨Int.le_refl 0, by show (0 : Int) < 2 ^ 0; decide⟩
  | succ w ih =>
    unfold fieldB at *
    rw [List.range_succ, List.foldl_append, Int.pow_succ]
    show 0 ≤ 2 * _ + bitB ds (p + w) ∧ 2 * _ + bitB ds (p + w) < _
    have : 0 ≤ bitB ds (p + w) ∧ bitB ds (p + w) < 2 := by unfold bitB; omega
    omega
theorem bit_lead (ds : List Int) : bitB ds 0 = ds.getD 0 0 / 128 % 2 ∧ bitB ds 1 = ds.getD 0 0 / 64 % 2 := ⟨rfl, rfl⟩
theorem hasOff_gt {part : Int} (h0 : 0 ≤ part) (h4 : part < 4) : hasOff part = decide (1 < part) := by
  unfold hasOff
  have h : part = 0 ∨ part = 1 ∨ part = 2 ∨ part = 3 := by omega
  rcases h with e | e | e | e <;> subst e <;> decide
theorem law_read_eq {bits : Int} {ds : List Int} (hb : 1 ≤ bits) (hd : ∀ d ∈ ds, 0 ≤ d ∧ d < 256) (hW : ∀ n : Nat, n ≤ 8 → sizeF (statusW bits n) = statusBytes bits n) : readF bits ds = lawRead bits ds := by
  unfold readF lawRead
  by_cases h0 : ds.length = 0
  · rw [if_pos h0, if_pos h0]
  rw [if_neg h0, if_neg h0]
  have hd0 := hd (ds.getD 0 0) (by rw [List.getD_eq_getElem?_getD, List.getElem?_eq_getElem (by omega)]; exact List.getElem_mem _)
  have hz1 : sizeF [1] = 1 := by decide
  have f1 : (unpF [1] ds).getD 0 0 = fieldB ds 0 1 := field_fld (ws := []) (us := []) (w := 1) (fun x hx => by simp at hx; omega) hd (by show sizeF [1] ≤ _; rw [hz1]; omega) (fun x hx => by cases hx)
  have f1' : fieldB ds 0 1 = bitB ds 0 := by show 2 * 0 + bitB ds (0 + 0) = _; simp
  rw [f1, f1', (bit_lead ds).1]
  have s4 : sizeF [1, 1, bits, 2] = (4 + bits + 7) / 8 := by unfold sizeF; simp; omega
  have s5 : sizeF [1, 1, bits, 2, 8] = (12 + bits + 7) / 8 := by unfold sizeF; simp; omega
  have s3 : sizeF [1, bits, 4] = statusBytes bits 0 := by unfold sizeF statusBytes; simp; omega
  by_cases hlead : 128 ≤ ds.getD 0 0
  · rw [if_neg (by omega), if_pos hlead]
    unfold readStatus
    rw [s3]
    by_cases hl : (ds.length : Int) < statusBytes bits 0
    · rw [if_pos hl, if_pos hl]
    rw [if_neg hl, if_neg hl]
    have fc : (unpF [1, bits, 4] ds).getD 2 0 = fieldB ds (1 + bits).toNat 4 := by
      have k := field_fld (ws := [1, bits]) (us := []) (w := 4) (ds := ds) (fun x hx => by simp at hx; omega) hd (by show sizeF [1, bits, 4] ≤ _; rw [s3]; omega) (fun x hx => by cases hx)
      have e : ([1, bits] : List Int).sum = 1 + bits := by simp
      rw [e] at k
      exact k
    have fu : (unpF [1, bits, 4] ds).getD 1 0 = fieldB ds 1 bits.toNat := field_fld (ws := [1]) (us := [4]) (w := bits) (ds := ds) (fun x hx => by simp at hx; omega) hd (by show sizeF [1, bits, 4] ≤ _; rw [s3]; omega) (fun x hx => by simp at hx; omega)
    rw [fc, fu]
    have hcb := field_bound ds (1 + bits).toNat 4
    generalize fieldB ds (1 + bits).toNat 4 = c at hcb
    by_cases hc : 8 < c ∨ (ds.length : Int) ≠ statusBytes bits c
    · rw [if_pos hc, if_pos hc]
    rw [if_neg hc, if_neg hc]
    have hn : ∃ n : Nat, c = n ∧ n ≤ 8 := ⟨c.toNat, by omega, by omega⟩
    obtain ⟨n, rfl, hn⟩ := hn
    rw [Int.toNat_natCast]
    congr 2
    unfold rowsOf
    refine List.map_congr_left fun k hk => ?_
    have hk := List.mem_range.mp hk
    have len : (ds.length : Int) = sizeF (statusW bits n) := by rw [hW n hn]; omega
    have key : ∀ (pre post : List Int) (w : Int) (j : Nat), statusW bits n = pre ++ w :: post → pre.length = j + 3 → 0 ≤ w → (∀ x ∈ pre, 0 ≤ x) → (∀ x ∈ post, 0 ≤ x) → ((unpF (statusW bits n) ds).drop 3).getD j 0 = fieldB ds pre.sum.toNat w.toNat := fun pre post w j e hj hw hpre hpost => by
      have kk := field_fld (ws := pre) (us := post) (w := w) (ds := ds) (fun x hx => by
        rcases List.mem_append.mp hx with hx | hx
        · exact hpre x hx
        · rw [List.mem_singleton.mp hx]
          exact hw) hd (by rw [← e]; omega) hpost
      rw [← e] at kk
      rw [← kk, List.getD_eq_getElem?_getD, List.getElem?_drop, List.getD_eq_getElem?_getD, hj, Nat.add_comm]
    have flat3 : ∀ m : Nat, ∀ x ∈ (List.replicate m [bits, 8, 8]).flatten, 0 ≤ x := fun m x hx => by
      obtain ⟨l, hl, hx⟩ := List.mem_flatten.mp hx
      rw [(List.mem_replicate.mp hl).2] at hx
      simp at hx
      omega
    have flen : ∀ m : Nat, ((List.replicate m [bits, 8, 8]).flatten).length = 3 * m := fun m => by
      rw [List.length_flatten, List.map_replicate, List.sum_replicate_nat]
      show m * 3 = 3 * m
      omega
    have fsum : ∀ m : Nat, ((List.replicate m [bits, 8, 8]).flatten).sum = (m : Int) * (bits + 16) := fun m => by
      induction m with
      | zero => simp
      | succ m ih =>
        rw [List.replicate_succ, List.flatten_cons, List.sum_append, ih, Int.natCast_succ, Int.add_mul, Int.one_mul]
        have e : ([bits, 8, 8] : List Int).sum = bits + 16 := by simp
        rw [e]
        omega
    have hsplit : statusW bits n = ([1, bits, 4] ++ (List.replicate k [bits, 8, 8]).flatten) ++ (bits :: 8 :: 8 :: (List.replicate (n - k - 1) [bits, 8, 8]).flatten) := by
      unfold statusW
      have e : n = k + (1 + (n - k - 1)) := by omega
      rw [List.append_assoc]
      congr 1
      conv => lhs; rw [e]
      rw [← List.replicate_append_replicate, List.flatten_append, ← List.replicate_append_replicate, List.flatten_append]
      rfl
    have hhead : ∀ x ∈ [1, bits, 4] ++ (List.replicate k [bits, 8, 8]).flatten, 0 ≤ x := fun x hx => by
      rcases List.mem_append.mp hx with hx | hx
      · simp at hx
        omega
      · exact flat3 k x hx
    have hsum : ([1, bits, 4] ++ (List.replicate k [bits, 8, 8]).flatten).sum = 5 + bits + (k : Int) * (bits + 16) := by
      rw [List.sum_append, fsum]
      have : ([1, bits, 4] : List Int).sum = 5 + bits := by
        simp
        omega
      rw [this]
    have hlen : ([1, bits, 4] ++ (List.replicate k [bits, 8, 8]).flatten).length = 3 + 3 * k := by rw [List.length_append, flen]; rfl
    have k1 := key _ _ _ (3 * k) hsplit (by rw [hlen]; omega) (by omega) hhead (fun x hx => by
      rcases List.mem_cons.mp hx with hx | hx
      · omega
      rcases List.mem_cons.mp hx with hx | hx
      · omega
      · exact flat3 _ x hx)
    have k2 := key (([1, bits, 4] ++ (List.replicate k [bits, 8, 8]).flatten) ++ [bits]) (8 :: (List.replicate (n - k - 1) [bits, 8, 8]).flatten) 8 (3 * k + 1) (by rw [hsplit]; simp) (by rw [List.length_append, hlen]; show 3 + 3 * k + 1 = _; omega) (by omega) (fun x hx => by
      rcases List.mem_append.mp hx with hx | hx
      · exact hhead x hx
      · simp at hx
        omega) (fun x hx => by
      rcases List.mem_cons.mp hx with hx | hx
      · omega
      · exact flat3 _ x hx)
    have k3 := key (([1, bits, 4] ++ (List.replicate k [bits, 8, 8]).flatten) ++ [bits, 8]) ((List.replicate (n - k - 1) [bits, 8, 8]).flatten) 8 (3 * k + 2) (by rw [hsplit]; simp) (by rw [List.length_append, hlen]; show 3 + 3 * k + 2 = _; omega) (by omega) (fun x hx => by
      rcases List.mem_append.mp hx with hx | hx
      · exact hhead x hx
      · simp at hx
        omega) (flat3 _)
    rw [hsum] at k1
    rw [List.sum_append, hsum] at k2 k3
    rw [k1, k2, k3]
    have e1 : ([bits] : List Int).sum = bits := by simp
    have e2 : ([bits, 8] : List Int).sum = bits + 8 := by simp
    rw [e1, e2]
    have e3 : 5 + bits + (k : Int) * (bits + 16) + (bits + 8) = 5 + bits + (k : Int) * (bits + 16) + bits + 8 := by omega
    rw [e3]
    rfl
  · rw [if_pos (by omega), if_neg hlead]
    unfold readData
    rw [s4]
    by_cases hl : (ds.length : Int) < (4 + bits + 7) / 8
    · rw [if_pos hl, if_pos hl]
    rw [if_neg hl, if_neg hl]
    have f0 : (unpF [1, 1, bits, 2] ds).getD 1 0 = fieldB ds 1 1 := field_fld (ws := [1]) (us := [bits, 2]) (w := 1) (ds := ds) (fun x hx => by simp at hx; omega) hd (by show sizeF [1, 1, bits, 2] ≤ _; rw [s4]; omega) (fun x hx => by simp at hx; omega)
    have f2 : (unpF [1, 1, bits, 2] ds).getD 2 0 = fieldB ds 2 bits.toNat := field_fld (ws := [1, 1]) (us := [2]) (w := bits) (ds := ds) (fun x hx => by simp at hx; omega) hd (by show sizeF [1, 1, bits, 2] ≤ _; rw [s4]; omega) (fun x hx => by simp at hx; omega)
    have f3 : (unpF [1, 1, bits, 2] ds).getD 3 0 = fieldB ds (2 + bits).toNat 2 := by
      have k := field_fld (ws := [1, 1, bits]) (us := []) (w := 2) (ds := ds) (fun x hx => by simp at hx; omega) hd (by show sizeF [1, 1, bits, 2] ≤ _; rw [s4]; omega) (fun x hx => by cases hx)
      have e : ([1, 1, bits] : List Int).sum = 2 + bits := by simp; omega
      rw [e] at k
      exact k
    have f1b : fieldB ds 1 1 = bitB ds 1 := by show 2 * 0 + bitB ds (1 + 0) = _; simp
    rw [f0, f2, f3, f1b, (bit_lead ds).2]
    have hpb := field_bound ds (2 + bits).toNat 2
    have e4 : (2 : Int) ^ 2 = 4 := by decide
    rw [e4] at hpb
    have hof := hasOff_gt hpb.1 hpb.2
    have f4 : (ds.length : Int) ≥ (12 + bits + 7) / 8 → hasOff (fieldB ds (2 + bits).toNat 2) = true → (unpF (dataW bits (fieldB ds (2 + bits).toNat 2)) ds).getD 4 0 = fieldB ds (4 + bits).toNat 8 := fun hlen ho => by
      have k := field_fld (ws := [1, 1, bits, 2]) (us := []) (w := 8) (ds := ds) (fun x hx => by simp at hx; omega) hd (by show sizeF [1, 1, bits, 2, 8] ≤ _; rw [s5]; omega) (fun x hx => by cases hx)
      have e : ([1, 1, bits, 2] : List Int).sum = 4 + bits := by simp; omega
      rw [e] at k
      unfold dataW
      rw [if_pos ho]
      exact k
    generalize fieldB ds (2 + bits).toNat 2 = part at *
    have hsz : sizeF (dataW bits part) = if 1 < part then (12 + bits + 7) / 8 else (4 + bits + 7) / 8 := by
      unfold dataW
      rw [hof]
      by_cases h : 1 < part
      · rw [if_pos (decide_eq_true h), if_pos h, s5]
      · rw [if_neg (by simp [h]), if_neg h, s4]
    rw [hsz]
    by_cases hle : (ds.length : Int) ≤ (if 1 < part then (12 + bits + 7) / 8 else (4 + bits + 7) / 8)
    · rw [if_pos hle, if_pos hle]
    rw [if_neg hle, if_neg hle]
    congr 2
    · by_cases h : 64 ≤ ds.getD 0 0
      · rw [decide_eq_true h, decide_eq_true (by omega)]
      · rw [decide_eq_false h, decide_eq_false (by omega)]
    · by_cases h : 1 < part
      · rw [if_pos h] at hle ⊢
        rw [if_pos (by rw [hof]; exact decide_eq_true h)]
        exact f4 (by omega) (by rw [hof]; exact decide_eq_true h)
      · rw [if_neg h, if_neg (by rw [hof]; simp [h])]
theorem bytes_cons (W : Int) (k : Nat) : bytesOf W (k + 1) = (W / 2 ^ (8 * k) % 256) :: bytesOf W k := by
  unfold bytesOf
  rw [List.range_succ_eq_map, List.map_cons, List.map_map]
  congr 1
  · unfold byteAt
    congr 3
    omega
  · refine List.map_congr_left fun i _ => ?_
    show byteAt W (k + 1) (i + 1) = byteAt W k i
    unfold byteAt
    congr 3
    omega
theorem pack_parts {ws vs : List Int} {many left : Int} (hm : many = ws.sum) (hs : 0 ≤ ws.sum) (hl : left = (8 - many % 8) % 8) : (many + left) / 8 = sizeF ws ∧ 8 * sizeF ws - ws.sum = left := by
  subst hm hl
  unfold sizeF
  omega
theorem two_small {k : Int} (h0 : 0 ≤ k) (h : k ≤ 29) : CDiv (0 : Int) (2 ^ k.toNat) := by
  have e : ∃ n : Nat, k.toNat = n ∧ n ≤ 29 := ⟨_, rfl, by omega⟩
  obtain ⟨n, en, hn⟩ := e
  rw [en]
  refine ⟨pow_nn n, ?_⟩
  have e2 : (2 : Int) ^ n = ((2 ^ n : Nat) : Int) := by rw [Int.natCast_pow]; rfl
  rw [e2]
  have h2 : 2 ^ n ≤ 2 ^ 29 := Nat.pow_le_pow_right (by decide) hn
  have e3 : (2 : Nat) ^ 29 = 536870912 := by decide
  omega
theorem two_mul {a b : Int} {w : Int} (hw : w ≤ 60) (hb : b = 2 ^ w.toNat) : CMul a b := by
  refine .inr ?_
  have e : ∃ n : Nat, w.toNat = n ∧ n ≤ 60 := ⟨_, rfl, by omega⟩
  obtain ⟨n, en, hn⟩ := e
  rw [hb, en]
  have h1 := pow_nn n
  have h2 : (2 : Int) ^ n ≤ 2 ^ 60 := by
    have e2 : (2 : Int) ^ n = ((2 ^ n : Nat) : Int) := by rw [Int.natCast_pow]; rfl
    have e3 : (2 : Int) ^ 60 = ((2 ^ 60 : Nat) : Int) := by rw [Int.natCast_pow]; rfl
    rw [e2, e3]
    exact Int.ofNat_le.mpr (Nat.pow_le_pow_right (by decide) hn)
  have e60 : (2 : Int) ^ 60 = 1152921504606846976 := by decide
  have e64 : (2 : Int) ^ 64 = 18446744073709551616 := by decide
  omega
section
variable {P : Program} {w : World} {K : PySem.W.Frag} {mg : Str → Option Value} {base : Heap}
def sp_status_piece (K : PySem.W.Frag) (C : Addr) : Sp := fun vs H Q E => ∃ (bits upto : Int) (a : Addr) (ms : List (Int × Int × Int)), vs = [.int bits, .int upto, .ref a] ∧ (1 ≤ bits ∧ bits ≤ 100) ∧ RowsAt H a ms ∧ RowsOk ms ∧ (ms.length ≤ 8 → NewO (.lst ((statusF bits upto ms).map V.int)) H Q) ∧ (8 < ms.length → ∀ H', Same H H' → E (.ref C) none H')
theorem statusVals_snoc (bits upto : Int) (n : Int) (ms : List (Int × Int × Int)) (r : Int × Int × Int) : ([1, upto % 2 ^ bits.toNat, n] ++ (ms ++ [r]).flatMap fun r => [r.1 % 2 ^ bits.toNat, r.2.1, r.2.2]) = ([1, upto % 2 ^ bits.toNat, n] ++ ms.flatMap fun r => [r.1 % 2 ^ bits.toNat, r.2.1, r.2.2]) ++ [r.1 % 2 ^ bits.toNat, r.2.1, r.2.2] := by
  rw [List.flatMap_append, ← List.append_assoc]
  simp
theorem statusW_snoc (bits : Int) (n : Nat) : statusW bits (n + 1) = statusW bits n ++ [bits, 8, 8] := by
  unfold statusW
  rw [List.replicate_succ', List.flatten_append, ← List.append_assoc]
  simp
theorem flatMap3_len (f : Int × Int × Int → List Int) (h : ∀ r, (f r).length = 3) : ∀ ms : List (Int × Int × Int), (ms.flatMap f).length = 3 * ms.length
  | [] => rfl
  | r :: ms => by
    rw [List.flatMap_cons, List.length_append, h, flatMap3_len f h ms, List.length_cons]
    omega
@[irreducible] def ip_status_piece (K : PySem.W.Frag) (C : Addr) : Sp := sp_status_piece K C
theorem op_status_piece {K : PySem.W.Frag} {C : Addr} {vs : List V} {H : Hp} {Q : VK} {E : XK} (h : sp_status_piece K C vs H Q E) : ip_status_piece K C vs H Q E := by
  unfold ip_status_piece
  exact h
theorem un_status_piece {K : PySem.W.Frag} {C : Addr} {vs : List V} {H : Hp} {Q : VK} {E : XK} (h : ip_status_piece K C vs H Q E) : sp_status_piece K C vs H Q E := by
  unfold ip_status_piece at h
  exact h
theorem ok_status_piece (T : Tx P w K mg base) : FnOk P w K mg base (L2.CX P w) 5 T.a_status_piece T.d_status_piece ["bits", "upto", "missing"] (ip_status_piece K T.C_NotValid) := by
  have G_u_status_head := ok_u_status_head T
  have G_pack := ok_pack T
  have G_short := ok_short T
  have G_u_range_widths := ok_u_range_widths T
  refine T.p_status_piece.F.okX sc_status_piece (fun vs H Q E h => ?_) (fun cdv A outer s H vs Q E hr h => ?_)
  · obtain ⟨bits, upto, a, ms, rfl, hb, hA, hR, q, e⟩ := un_status_piece h
    rfl
  · obtain ⟨bits, upto, a, ms, rfl, hb, hA, hR, q, e⟩ := un_status_piece h
    refine ⟨_, (pss_cons (ps_ifM (pt_cmpR op_gtM (pe_callB call_lenM (by rfl) T.n_len PySem.boot_len (pa_cons (pv 2) pa_nil)) (pe_gint rfl T.g_MOST_MISSING) (nomark _)) (pss_one (ps_raise rfl (takes_of rfl rfl rfl rfl) (pmk_plain T.x_NotValid (hr.mono (by decide)) rfl))) pss_nil) (pss_cons (ps_set (i := 3) sc_status_piece.nd rfl (Or.inl rfl) (pe_call G_u_status_head (hr.mono (by decide)) rfl T.p_u_status_head.m T.p_u_status_head.F.kp T.p_u_status_head.b .nil pass0 (pa_cons (pv 0) pa_nil))) (pss_cons (ps_set (i := 4) sc_status_piece.nd rfl (Or.inl rfl) (pe_lstM (pa_cons (pe_gint rfl T.g_STATUS) (pa_cons (pe_call G_short (hr.mono (by decide)) rfl T.p_short.m T.p_short.F.kp T.p_short.b .nil pass0 (pa_cons (pv 1) (pa_cons (pv 0) pa_nil))) (pa_cons (pe_callB call_lenM (by rfl) T.n_len PySem.boot_len (pa_cons (pv 2) pa_nil)) pa_nil))))) (pss_cons (ps_forG (passes_of rfl) rfl (pv 2) (pg_tup rfl (pgs_cons (pg_name (i := 5) sc_status_piece.nd rfl (Or.inl rfl)) (pgs_cons (pg_name (i := 6) sc_status_piece.nd rfl (Or.inl rfl)) (pgs_cons (pg_name (i := 7) sc_status_piece.nd rfl (Or.inl rfl)) pgs_nil)))) (pss_cons (ps_expr (pe_ext (pv 3) (pe_call G_u_range_widths (hr.mono (by decide)) rfl T.p_u_range_widths.m T.p_u_range_widths.F.kp T.p_u_range_widths.b .nil pass0 (pa_cons (pv 0) pa_nil)))) (pss_one (ps_expr (pe_ext (pv 4) (pe_lstM (pa_cons (pe_call G_short (hr.mono (by decide)) rfl T.p_short.m T.p_short.F.kp T.p_short.b .nil pass0 (pa_cons (pv 5) (pa_cons (pv 0) pa_nil))) (pa_cons (pv 6) (pa_cons (pv 7) pa_nil))))))))) (pss_one (ps_ret (pe_call G_pack (hr.mono (by decide)) rfl T.p_pack.m T.p_pack.F.kp T.p_pack.b .nil (passes_call (takes_of rfl rfl rfl rfl) (fun _ _ _ _ h => h)) (pa_cons (pv 3) (pa_cons (pv 4) pa_nil))))))))), ?_⟩
    obtain ⟨ps, hps, hpl, hpt⟩ := hA.ex
    have hSq : SqL K H a (ps.map V.ref) := sq_of hps
    (repeat walk_at "rd")
    refine br_by (fun h8 => ?_) (fun h8 => ?_)
    · (repeat walk_at "rd")
      rw [List.length_map] at h8
      exact e (by omega) H (Same.refl _)
    rw [List.length_map] at h8
    have hn8 : ms.length ≤ 8 := by omega
    (repeat walk_at "rd")
    refine op_u_status_head ⟨bits, rfl, fun wp H1 n1 s1 e1 => ?_⟩
    (repeat walk_at "rd")
    refine op_short ⟨upto, bits, rfl, by omega, by omega, ?_⟩
    (repeat walk_at "rd")
    intro vp H2 n2 s2 e2
    have nwv : wp ≠ vp := ne_of_none e1 n2
    have nv : H vp = none := s1.free n2
    (repeat walk_at "rd")
    refine rd_forG ?_
    (repeat walk_at "rd")
    rw [List.length_map, hpl] at e2
    refine ⟨a, _, fun i σ H' => Stop (Same H H' ∧ H' wp = some (.lst ((statusW bits i).map V.int)) ∧ H' vp = some (.lst (([1, upto % 2 ^ bits.toNat, (ms.length : Int)] ++ (ms.take i).flatMap fun r => [r.1 % 2 ^ bits.toNat, r.2.1, r.2.2]).map V.int)) ∧ ∃ x y z, σ = [some (.int bits), some (.int upto), some (.ref a), some (.ref wp), some (.ref vp), x, y, z]), rfl, (s1.trans s2).seq hSq, .a ⟨s1.trans s2, s2 _ _ e1, e2, _, _, _, rfl⟩, fun i σ' H' hi p => ?_, fun i y σ' H' hi p => ?_, fun σ' H' p => ?_⟩
    · obtain ⟨sm, _⟩ := p.un
      exact sm.seq hSq
    · obtain ⟨sm, ew, ev, x1, x2, x3, rfl⟩ := p.un
      rw [List.getElem?_map] at hi
      cases hp : ps[i]? with
      | none => rw [hp] at hi; cases hi
      | some pq =>
        rw [hp] at hi
        cases hi
        have hil := (List.getElem?_eq_some_iff.mp hp).1
        have hmi : ms[i]? = some ms[i] := List.getElem?_eq_getElem (by omega)
        have ht := sm _ _ (hpt i pq ms[i] hp hmi)
        refine ⟨pq, _, rfl, st_of ht, rfl, ?_⟩
        refine ⟨_, _, rfl, ?_⟩
        refine ⟨_, _, rfl, ?_⟩
        refine ⟨_, _, rfl, ?_⟩
        (repeat walk_at "rd")
        refine op_u_range_widths ⟨bits, rfl, fun rp H3 n3 s3 e3 => ?_⟩
        have s34 : Same H (upd H3 wp (.lst ((statusW bits i).map V.int ++ ([bits, 8, 8] : List Int).map V.int))) := same_mut (sm.trans s3) n1
        have ev3 : upd H3 wp (.lst ((statusW bits i).map V.int ++ ([bits, 8, 8] : List Int).map V.int)) vp = some (.lst (([1, upto % 2 ^ bits.toNat, (ms.length : Int)] ++ (ms.take i).flatMap fun r => [r.1 % 2 ^ bits.toNat, r.2.1, r.2.2]).map V.int)) := by
          rw [upd_ne nwv.symm]
          exact s3 _ _ ev
        refine rd_ext (s3 _ _ ew) e3 (by rw [List.length_map, statusW_len, List.length_map]; show _ + 3 ≤ _; omega) ?_
        (repeat walk_at "rd")
        refine op_short ⟨_, bits, rfl, by omega, by omega, ?_⟩
        (repeat walk_at "rd")
        intro tp H4 n4 s4 e4
        refine rd_ext (s4 _ _ ev3) e4 (by
          rw [List.length_map, List.length_append, flatMap3_len _ (fun _ => rfl), List.length_take]
          show 3 + _ + 3 ≤ _
          omega) ?_
        refine .a ⟨same_mut (s34.trans s4) nv, ?_, ?_, _, _, _, rfl⟩
        · rw [upd_ne nwv, s4 _ _ upd_same, statusW_snoc, List.map_append]
        · rw [upd_same, take_snoc hmi, statusVals_snoc]
          simp only [List.map_append]
          rfl
    · obtain ⟨sm, ew, ev, x1, x2, x3, rfl⟩ := p.un
      rw [List.length_map, hpl] at ew ev
      rw [List.take_length] at ev
      have hok := status_ok (upto := upto) hb.1 hR hn8
      (repeat walk_at "rd")
      refine op_pack ⟨wp, vp, _, _, rfl, sq_of ew, sq_of ev, by rw [statusW_len]; omega, statusW_le hb.2, fun _ p3 H3 n3 s3 e3 => ?_, fun h => by unfold statusVals at hok; rw [hok] at h; cases h⟩
      exact q hn8 p3 H3 (sm.free n3) (sm.trans s3) e3
def sp_u_law_bytes (K : PySem.W.Frag) : Sp := fun as H Q _ => ∃ (a b : Addr) (ws vs : List Int), as = [.ref a, .ref b] ∧ SqL K H a (ws.map V.int) ∧ SqL K H b (vs.map V.int) ∧ okF ws vs = true ∧ ws.length ≤ 100 ∧ (∀ w ∈ ws, w ≤ 29) ∧ NewO (.lst ((packF ws vs).map V.int)) H Q
theorem sum_le29 {ws : List Int} (h : ∀ w ∈ ws, w ≤ 29) : ws.sum ≤ 29 * (ws.length : Int) := by
  induction ws with
  | nil => exact Int.le_refl 0
  | cons w r ih =>
    rw [List.sum_cons, List.length_cons]
    have h1 := h w List.mem_cons_self
    have h2 := ih fun x hx => h x (List.mem_cons_of_mem w hx)
    omega
@[irreducible] def ip_u_law_bytes (K : PySem.W.Frag) : Sp := sp_u_law_bytes K
theorem op_u_law_bytes {K : PySem.W.Frag} {vs : List V} {H : Hp} {Q : VK} {E : XK} (h : sp_u_law_bytes K vs H Q E) : ip_u_law_bytes K vs H Q E := by
  unfold ip_u_law_bytes
  exact h
theorem un_u_law_bytes {K : PySem.W.Frag} {vs : List V} {H : Hp} {Q : VK} {E : XK} (h : ip_u_law_bytes K vs H Q E) : sp_u_law_bytes K vs H Q E := by
  unfold ip_u_law_bytes at h
  exact h
theorem ok_u_law_bytes (T : Tx P w K mg base) : FnOk P w K mg base CX0 2 T.a_u_law_bytes T.d_u_law_bytes ["widths", "values"] (ip_u_law_bytes K) := by
  have G_u_law_two := ok_u_law_two T
  refine T.p_u_law_bytes.F.ok sc_u_law_bytes (fun vs H Q E h => ?_) (fun cdv A outer s H vs Q E hr h => ?_)
  · obtain ⟨a, b, ws, vs, rfl, hS, hT, hok, hn, hw, q⟩ := un_u_law_bytes h
    rfl
  · obtain ⟨a, b, ws, vs, rfl, hS, hT, hok, hn, hw, q⟩ := un_u_law_bytes h
    refine ⟨_, (pss_cons (ps_set (i := 2) sc_u_law_bytes.nd rfl (Or.inl rfl) pe_int) (pss_cons (ps_set (i := 3) sc_u_law_bytes.nd rfl (Or.inl rfl) pe_int) (pss_cons (ps_forR1 PassesOwn.never rfl rfl T.n_range (pa_cons (pe_callB call_lenM (by rfl) T.n_len PySem.boot_len (pa_cons (pv 0) pa_nil)) pa_nil) (pg_name (i := 4) sc_u_law_bytes.nd rfl (Or.inl rfl)) (pss_cons (ps_set (i := 2) sc_u_law_bytes.nd rfl (Or.inl rfl) (pe_op op_addM (pe_op op_mulM (pv 2) (pe_call G_u_law_two (hr.mono (by decide)) rfl T.p_u_law_two.m T.p_u_law_two.F.kp T.p_u_law_two.b .nil pass0 (pa_cons (pe_ix ix_listM (pv 0) (pv 4) (fun _ _ => rfl)) pa_nil))) (pe_ix ix_listM (pv 1) (pv 4) (fun _ _ => rfl)))) (pss_one (ps_set (i := 3) sc_u_law_bytes.nd rfl (Or.inl rfl) (pe_op op_addM (pv 3) (pe_ix ix_listM (pv 0) (pv 4) (fun _ _ => rfl))))))) (pss_cons (ps_set (i := 5) sc_u_law_bytes.nd rfl (Or.inl rfl) (pe_op op_modM (pe_op op_subM pe_int (pe_op op_modM (pv 3) pe_int)) pe_int)) (pss_cons (ps_set (i := 2) sc_u_law_bytes.nd rfl (Or.inl rfl) (pe_op op_mulM (pv 2) (pe_call G_u_law_two (hr.mono (by decide)) rfl T.p_u_law_two.m T.p_u_law_two.F.kp T.p_u_law_two.b .nil pass0 (pa_cons (pv 5) pa_nil)))) (pss_cons (ps_set (i := 6) sc_u_law_bytes.nd rfl (Or.inl rfl) (pe_lstM pa_nil)) (pss_cons (ps_forR1 PassesOwn.never rfl rfl T.n_range (pa_cons (pe_op op_fdivM (pe_op op_addM (pv 3) (pv 5)) pe_int) pa_nil) (pg_name (i := 4) sc_u_law_bytes.nd rfl (Or.inl rfl)) (pss_cons (ps_set (i := 6) sc_u_law_bytes.nd rfl (Or.inl rfl) (pe_op op_catM (pe_lstM (pa_cons (pe_op op_modM (pe_callTy call_int1 (by rfl) T.n_int (by decide +kernel) (pa_cons (pv 2) pa_nil)) pe_int) pa_nil)) (pv 6))) (pss_one (ps_set (i := 2) sc_u_law_bytes.nd rfl (Or.inl rfl) (pe_op op_fdivM (pv 2) pe_int))))) (pss_one (ps_ret (pv 6)))))))))), ?_⟩
    have hwk := okF_wok hok
    have hl : ws.length = vs.length := by
      unfold okF at hok
      rw [Bool.and_eq_true, decide_eq_true_eq] at hok
      exact hok.1
    have hs0 : 0 ≤ ws.sum := sum_nn fun w h => by have := wok_iff.mp hwk w h; omega
    (repeat walk_at "rd")
    refine rd_forR1 ?_
    (repeat walk_at "rd")
    refine ⟨_, fun i σ H' => Stop (H' = H ∧ ∃ x4 x5 x6, σ = [some (.ref a), some (.ref b), some (.int (rowP ((ws.zip vs).take i))), some (.int (ws.take i).sum), x4, x5, x6]), rfl, ⟨by omega, by omega⟩, .a ⟨rfl, _, _, _, rfl⟩, fun i σ' H' hi p => ?_, fun σ' H' p => ?_⟩
    · obtain ⟨rfl, x4, x5, x6, rfl⟩ := p.un
      have hi1 : i < ws.length := by omega
      have hi2 : i < vs.length := by omega
      have g1 : ws.getD ((i : Nat) : Int).toNat 0 = ws[i] := by rw [Int.toNat_natCast, List.getD_eq_getElem?_getD, List.getElem?_eq_getElem hi1]; rfl
      have g2 : vs.getD ((i : Nat) : Int).toNat 0 = vs[i] := by rw [Int.toNat_natCast, List.getD_eq_getElem?_getD, List.getElem?_eq_getElem hi2]; rfl
      have hzi : (ws.zip vs)[i]? = some (ws[i], vs[i]) := by rw [List.getElem?_zip_eq_some]; exact ⟨List.getElem?_eq_getElem hi1, List.getElem?_eq_getElem hi2⟩
      have hwi := hw ws[i] (List.getElem_mem hi1)
      have hwi1 := wok_iff.mp hwk ws[i] (List.getElem_mem hi1)
      (repeat walk_at "rd")
      refine rd_ixI hS (by omega) (by omega) ?_
      (repeat walk_at "rd")
      rw [g1]
      refine op_u_law_two ⟨_, rfl, by omega, by omega, ?_⟩
      (repeat walk_at "rd")
      refine ⟨two_mul (w := ws[i]) (by omega) rfl, ?_⟩
      (repeat walk_at "rd")
      refine rd_ixI hT (by omega) (by omega) ?_
      (repeat walk_at "rd")
      rw [g2]
      (repeat walk_at "rd")
      refine rd_ixI hS (by omega) (by omega) ?_
      (repeat walk_at "rd")
      rw [g1]
      exact .a ⟨rfl, _, _, _, by rw [take_snoc hzi, rowP_snoc, take_snoc (List.getElem?_eq_getElem hi1), List.sum_append, show ([ws[i]] : List Int).sum = ws[i] by simp]; rfl⟩
    · obtain ⟨rfl, x4, x5, x6, rfl⟩ := p.un
      have zl : (ws.zip vs).length = ws.length := by rw [List.length_zip]; omega
      rw [Int.toNat_natCast, List.take_length, ← zl, List.take_length]
      obtain ⟨hsz, hpad⟩ := pack_parts (ws := ws) (vs := vs) rfl hs0 rfl
      generalize hleft : (8 - ws.sum % 8) % 8 = left at hsz hpad
      have hlb : 0 ≤ left ∧ left < 8 := by omega
      have hsb : sizeF ws ≤ 1000 := by
        have h1 := sum_le29 hw
        unfold sizeF
        omega
      (repeat walk_at "rd")
      rw [hleft]
      refine op_u_law_two ⟨left, rfl, by omega, by omega, ?_⟩
      (repeat walk_at "rd")
      refine ⟨two_mul (w := left) (by omega) rfl, ?_⟩
      (repeat walk_at "rd")
      intro p1 H1 n1 s1 e1
      refine rd_forR1 ?_
      (repeat walk_at "rd")
      rw [hsz]
      generalize hW : rowP (ws.zip vs) * 2 ^ left.toNat = W
      refine ⟨_, fun i σ H2 => Stop (Same H' H2 ∧ ∃ p, H' p = none ∧ H2 p = some (.lst ((bytesOf W i).map V.int)) ∧ ∃ x4, σ = [some (.ref a), some (.ref b), some (.int (W / 2 ^ (8 * i))), some (.int ws.sum), x4, some (.int left), some (.ref p)]), rfl, ⟨by omega, by omega⟩, .a ⟨s1, p1, n1, e1, _, by rw [Nat.mul_zero, Int.pow_zero, Int.ediv_one]; rfl⟩, fun i σ2 H2 hi w2 => ?_, fun σ2 H2 w2 => ?_⟩
      · obtain ⟨sm, p, np, ep, x4, rfl⟩ := w2.un
        (repeat walk_at "rd")
        intro p3 H3 n3 s3 e3
        (repeat walk_at "rd")
        refine rd_cat e3 (s3 _ _ ep) (by rw [List.length_map, bytesOf_length]; show 1 + i ≤ _; omega) fun p4 H4 n4 s4 e4 => ?_
        (repeat walk_at "rd")
        refine .a ⟨(sm.trans s3).trans s4, p4, (sm.trans s3).free n4, ?_, _, by
          have e : W / 2 ^ (8 * (i + 1)) = W / 2 ^ (8 * i) / 256 := by
            rw [Nat.mul_add, pow_add2, ← Int.ediv_ediv_of_nonneg (Int.le_of_lt (pow_nn _))]
            rfl
          rw [e]
          rfl⟩
        rw [e4, bytes_cons, List.map_cons]
        rfl
      · obtain ⟨sm, p, np, ep, x4, rfl⟩ := w2.un
        (repeat walk_at "rd")
        refine q p H2 np sm ?_
        rw [ep]
        unfold packF
        rw [hpad, hW]
def sp_u_law_data (K : PySem.W.Frag) : Sp := fun vs H Q _ => ∃ (bits : Int) (poll : Bool) (n part off : Int) (b : Addr) (body : List Int), vs = [.int bits, .bl poll, .int n, .int part, .int off, .ref b] ∧ (1 ≤ bits ∧ bits ≤ 29) ∧ (0 ≤ part ∧ part < 4) ∧ (0 ≤ off ∧ off < 256) ∧ H b = some (.lst (body.map V.int)) ∧ body.length ≤ 10000 ∧
  NewO (.lst ((dataF bits poll n part off body).map V.int)) H Q
theorem dataW_le29 {bits part : Int} (h : bits ≤ 29) : ∀ w ∈ dataW bits part, w ≤ 29 := by
  unfold dataW
  intro w hw
  split at hw <;> simp at hw <;> omega
@[irreducible] def ip_u_law_data (K : PySem.W.Frag) : Sp := sp_u_law_data K
theorem op_u_law_data {K : PySem.W.Frag} {vs : List V} {H : Hp} {Q : VK} {E : XK} (h : sp_u_law_data K vs H Q E) : ip_u_law_data K vs H Q E := by
  unfold ip_u_law_data
  exact h
theorem un_u_law_data {K : PySem.W.Frag} {vs : List V} {H : Hp} {Q : VK} {E : XK} (h : ip_u_law_data K vs H Q E) : sp_u_law_data K vs H Q E := by
  unfold ip_u_law_data at h
  exact h
theorem ok_u_law_data (T : Tx P w K mg base) : FnOk P w K mg base CX0 3 T.a_u_law_data T.d_u_law_data ["bits", "poll", "number", "part", "offset", "body"] (ip_u_law_data K) := by
  have G_u_law_bytes := ok_u_law_bytes T
  have G_u_law_two := ok_u_law_two T
  refine T.p_u_law_data.F.ok sc_u_law_data (fun vs H Q E h => ?_) (fun cdv A outer s H vs Q E hr h => ?_)
  · obtain ⟨bits, poll, n, part, off, b, body, rfl, hb, hp, ho, hB, hl, q⟩ := un_u_law_data h
    rfl
  · obtain ⟨bits, poll, n, part, off, b, body, rfl, hb, hp, ho, hB, hl, q⟩ := un_u_law_data h
    refine ⟨_, (pss_cons (ps_set (i := 6) sc_u_law_data.nd rfl (Or.inl rfl) (pe_lstM (pa_cons pe_int (pa_cons pe_int (pa_cons (pv 0) (pa_cons pe_int pa_nil)))))) (pss_cons (ps_set (i := 7) sc_u_law_data.nd rfl (Or.inl rfl) (pe_lstM (pa_cons pe_int (pa_cons (pe_callTy call_int1 (by rfl) T.n_int (by decide +kernel) (pa_cons (pv 1) pa_nil)) (pa_cons (pe_op op_modM (pe_callTy call_int1 (by rfl) T.n_int (by decide +kernel) (pa_cons (pv 2) pa_nil)) (pe_call G_u_law_two (hr.mono (by decide)) rfl T.p_u_law_two.m T.p_u_law_two.F.kp T.p_u_law_two.b .nil pass0 (pa_cons (pv 0) pa_nil))) (pa_cons (pv 3) pa_nil)))))) (pss_cons (ps_ifM (pt_cmpR op_gtM (pv 3) pe_int (nomark _)) (pss_cons (ps_set (i := 6) sc_u_law_data.nd rfl (Or.inl rfl) (pe_op op_catM (pv 6) (pe_lstM (pa_cons pe_int pa_nil)))) (pss_one (ps_set (i := 7) sc_u_law_data.nd rfl (Or.inl rfl) (pe_op op_catM (pv 7) (pe_lstM (pa_cons (pv 4) pa_nil)))))) pss_nil) (pss_one (ps_ret (pe_op op_catM (pe_call G_u_law_bytes (hr.mono (by decide)) rfl T.p_u_law_bytes.m T.p_u_law_bytes.F.kp T.p_u_law_bytes.b .nil pass0 (pa_cons (pv 6) (pa_cons (pv 7) pa_nil))) (pv 5))))))), ?_⟩
    have hof := hasOff_gt hp.1 hp.2
    have hok := data_ok (poll := poll) hb.1 (sn := n % 2 ^ bits.toNat) ⟨Int.emod_nonneg _ (Int.ne_of_gt (pow_nn _)), Int.emod_lt_of_pos _ (pow_nn _)⟩ hp ho
    have fin : ∀ (H1 : Hp) (wp vp : Addr) (Q' : VK) (E' : XK), Same H H1 → H1 wp = some (.lst ((dataW bits part).map V.int)) → H1 vp = some (.lst ((dataVals poll (n % 2 ^ bits.toNat) part off).map V.int)) → NewO (.lst ((packF (dataW bits part) (dataVals poll (n % 2 ^ bits.toNat) part off)).map V.int)) H1 Q' → sp_u_law_bytes K [.ref wp, .ref vp] H1 Q' E' := fun H1 wp vp Q' E' s1 e1 e2 q' =>
      ⟨wp, vp, _, _, rfl, sq_of e1, sq_of e2, hok, Nat.le_trans (dataW_len _ _) (by decide), dataW_le29 hb.2, q'⟩
    have hl2 : (packF (dataW bits part) (dataVals poll (n % 2 ^ bits.toNat) part off)).length ≤ 20 := by
      have h1 := packF_length (vs := dataVals poll (n % 2 ^ bits.toNat) part off) (dataW_wok (part := part) hb.1)
      have h2 := size_data (bits := bits) (part := part) hb.1 (by omega)
      omega
    have hl3 : ((packF (dataW bits part) (dataVals poll (n % 2 ^ bits.toNat) part off)).map V.int).length + (body.map V.int).length ≤ 1000000 := by rw [List.length_map, List.length_map]; omega
    have fin2 : ∀ (H1 H4 : Hp) (p4 : Addr), Same H H1 → H1 p4 = none → Same H1 H4 → H4 p4 = some (.lst ((packF (dataW bits part) (dataVals poll (n % 2 ^ bits.toNat) part off)).map V.int ++ body.map V.int)) → Q (.ref p4) H4 := fun H1 H4 p4 s1 n1 s4 e4 => by
      refine q p4 H4 (s1.free n1) (s1.trans s4) ?_
      rw [e4]
      unfold dataF
      rw [List.map_append]
    (repeat walk_at "rd")
    intro wp H1 n1 s1 e1
    (repeat walk_at "rd")
    refine op_u_law_two ⟨bits, rfl, by omega, by omega, ?_⟩
    (repeat walk_at "rd")
    refine ⟨pow_nn _, ?_⟩
    (repeat walk_at "rd")
    intro vp H2 n2 s2 e2
    have e2' : H2 vp = some (.lst ([V.int 0, V.int (if poll = true then 1 else 0), V.int (n % 2 ^ bits.toNat), V.int part])) := e2
    have e1' := s2 _ _ e1
    (repeat walk_at "rd")
    refine br_by (fun h => ?_) (fun h => ?_)
    · have hh : hasOff part = true := by rw [hof]; exact decide_eq_true h
      (repeat walk_at "rd")
      intro t3 H3 n3 s3 e3
      refine rd_cat (s3 _ _ e1') e3 (by exact Nat.le_of_ble_eq_true rfl) fun wp2 H4 n4 s4 e4 => ?_
      (repeat walk_at "rd")
      intro t5 H5 n5 s5 e5
      refine rd_cat (s5 _ _ (s4 _ _ (s3 _ _ e2'))) e5 (by exact Nat.le_of_ble_eq_true rfl) fun vp2 H6 n6 s6 e6 => ?_
      (repeat walk_at "rd")
      have s16 := ((((s1.trans s2).trans s3).trans s4).trans s5).trans s6
      refine op_u_law_bytes (fin H6 wp2 vp2 _ _ s16 (by
        rw [s6 _ _ (s5 _ _ e4)]
        unfold dataW
        rw [if_pos hh]
        rfl) (by
        rw [e6]
        unfold dataVals
        rw [if_pos hh]
        rfl) fun p7 H7 n7 s7 e7 => ?_)
      (repeat walk_at "rd")
      refine rd_cat e7 (s7 _ _ (s16 _ _ hB)) hl3 fun p8 H8 n8 s8 e8 => ?_
      (repeat walk_at "rd")
      exact fin2 H7 H8 p8 (s16.trans s7) n8 s8 e8
    · have hh : ¬ hasOff part = true := by rw [hof]; simp [h]
      (repeat walk_at "rd")
      have s16 := s1.trans s2
      refine op_u_law_bytes (fin H2 wp vp _ _ s16 (by
        rw [e1']
        unfold dataW
        rw [if_neg hh]
        rfl) (by
        rw [e2']
        unfold dataVals
        rw [if_neg hh]
        rfl) fun p7 H7 n7 s7 e7 => ?_)
      (repeat walk_at "rd")
      refine rd_cat e7 (s7 _ _ (s16 _ _ hB)) hl3 fun p8 H8 n8 s8 e8 => ?_
      (repeat walk_at "rd")
      exact fin2 H7 H8 p8 (s16.trans s7) n8 s8 e8
def sp_u_law_status (K : PySem.W.Frag) : Sp := fun vs H Q _ => ∃ (bits upto : Int) (a : Addr) (ms : List (Int × Int × Int)), vs = [.int bits, .int upto, .ref a] ∧ (1 ≤ bits ∧ bits ≤ 29) ∧ RowsAt H a ms ∧ RowsOk ms ∧ ms.length ≤ 8 ∧ NewO (.lst ((statusF bits upto ms).map V.int)) H Q
theorem statusW_le29 {bits : Int} {n : Nat} (h1 : bits ≤ 29) : ∀ w ∈ statusW bits n, w ≤ 29 := by
  intro w hw
  unfold statusW at hw
  rcases List.mem_append.mp hw with hw | hw
  · simp at hw
    omega
  · obtain ⟨l, hl, hw⟩ := List.mem_flatten.mp hw
    rw [(List.mem_replicate.mp hl).2] at hw
    simp at hw
    omega
@[irreducible] def ip_u_law_status (K : PySem.W.Frag) : Sp := sp_u_law_status K
theorem op_u_law_status {K : PySem.W.Frag} {vs : List V} {H : Hp} {Q : VK} {E : XK} (h : sp_u_law_status K vs H Q E) : ip_u_law_status K vs H Q E := by
  unfold ip_u_law_status
  exact h
theorem un_u_law_status {K : PySem.W.Frag} {vs : List V} {H : Hp} {Q : VK} {E : XK} (h : ip_u_law_status K vs H Q E) : sp_u_law_status K vs H Q E := by
  unfold ip_u_law_status at h
  exact h
theorem ok_u_law_status (T : Tx P w K mg base) : FnOk P w K mg base CX0 3 T.a_u_law_status T.d_u_law_status ["bits", "upto", "missing"] (ip_u_law_status K) := by
  have G_u_law_bytes := ok_u_law_bytes T
  have G_u_law_two := ok_u_law_two T
  refine T.p_u_law_status.F.ok sc_u_law_status (fun vs H Q E h => ?_) (fun cdv A outer s H vs Q E hr h => ?_)
  · obtain ⟨bits, upto, a, ms, rfl, hb, hA, hR, hn8, q⟩ := un_u_law_status h
    rfl
  · obtain ⟨bits, upto, a, ms, rfl, hb, hA, hR, hn8, q⟩ := un_u_law_status h
    refine ⟨_, (pss_cons (ps_set (i := 3) sc_u_law_status.nd rfl (Or.inl rfl) (pe_lstM (pa_cons pe_int (pa_cons (pv 0) (pa_cons pe_int pa_nil))))) (pss_cons (ps_set (i := 4) sc_u_law_status.nd rfl (Or.inl rfl) (pe_lstM (pa_cons pe_int (pa_cons (pe_op op_modM (pe_callTy call_int1 (by rfl) T.n_int (by decide +kernel) (pa_cons (pv 1) pa_nil)) (pe_call G_u_law_two (hr.mono (by decide)) rfl T.p_u_law_two.m T.p_u_law_two.F.kp T.p_u_law_two.b .nil pass0 (pa_cons (pv 0) pa_nil))) (pa_cons (pe_callB call_lenM (by rfl) T.n_len PySem.boot_len (pa_cons (pv 2) pa_nil)) pa_nil))))) (pss_cons (ps_forL PassesOwn.never rfl (pv 2) (pg_name (i := 5) sc_u_law_status.nd rfl (Or.inl rfl)) (pss_cons (ps_set (i := 3) sc_u_law_status.nd rfl (Or.inl rfl) (pe_op op_catM (pv 3) (pe_lstM (pa_cons (pv 0) (pa_cons pe_int (pa_cons pe_int pa_nil)))))) (pss_one (ps_set (i := 4) sc_u_law_status.nd rfl (Or.inl rfl) (pe_op op_catM (pv 4) (pe_lstM (pa_cons (pe_op op_modM (pe_callTy call_int1 (by rfl) T.n_int (by decide +kernel) (pa_cons (pe_ix ix_tupM (pv 5) pe_int (fun _ _ => rfl)) pa_nil)) (pe_call G_u_law_two (hr.mono (by decide)) rfl T.p_u_law_two.m T.p_u_law_two.F.kp T.p_u_law_two.b .nil pass0 (pa_cons (pv 0) pa_nil))) (pa_cons (pe_ix ix_tupM (pv 5) pe_int (fun _ _ => rfl)) (pa_cons (pe_ix ix_tupM (pv 5) pe_int (fun _ _ => rfl)) pa_nil))))))))) (pss_one (ps_ret (pe_call G_u_law_bytes (hr.mono (by decide)) rfl T.p_u_law_bytes.m T.p_u_law_bytes.F.kp T.p_u_law_bytes.b .nil pass0 (pa_cons (pv 3) (pa_cons (pv 4) pa_nil)))))))), ?_⟩
    obtain ⟨ps, hps, hpl, hpt⟩ := hA.ex
    have hSq : SqL K H a (ps.map V.ref) := sq_of hps
    (repeat walk_at "rd")
    intro wp H1 n1 s1 e1
    (repeat walk_at "rd")
    refine op_u_law_two ⟨bits, rfl, by omega, by omega, ?_⟩
    (repeat walk_at "rd")
    refine ⟨pow_nn _, ?_⟩
    (repeat walk_at "rd")
    rw [List.length_map, hpl]
    intro vp H2 n2 s2 e2
    (repeat walk_at "rd")
    refine rd_forL ?_
    (repeat walk_at "rd")
    refine ⟨a, _, fun i σ H' => Stop (Same H H' ∧ (∃ wp vp, H' wp = some (.lst ((statusW bits i).map V.int)) ∧ H' vp = some (.lst (([1, upto % 2 ^ bits.toNat, (ms.length : Int)] ++ (ms.take i).flatMap fun r => [r.1 % 2 ^ bits.toNat, r.2.1, r.2.2]).map V.int)) ∧ ∃ x, σ = [some (.int bits), some (.int upto), some (.ref a), some (.ref wp), some (.ref vp), x])), rfl, (s1.trans s2).seq hSq, .a ⟨s1.trans s2, wp, vp, s2 _ _ e1, e2, none, rfl⟩, fun i σ' H' hi p => ?_, fun i y σ' H' hi p => ?_, fun σ' H' p => ?_⟩
    · obtain ⟨sm, _⟩ := p.un
      exact sm.seq hSq
    · obtain ⟨sm, wp, vp, ew, ev, x1, rfl⟩ := p.un
      rw [List.getElem?_map] at hi
      cases hp : ps[i]? with
      | none => rw [hp] at hi; cases hi
      | some pq =>
        rw [hp] at hi
        cases hi
        have hil := (List.getElem?_eq_some_iff.mp hp).1
        have hmi : ms[i]? = some ms[i] := List.getElem?_eq_getElem (by omega)
        have ht := sm _ _ (hpt i pq ms[i] hp hmi)
        (repeat walk_at "rd")
        intro t3 H3 n3 s3 e3
        refine rd_cat (s3 _ _ ew) e3 (by rw [List.length_map, statusW_len]; show _ + 3 ≤ _; omega) fun wp2 H4 n4 s4 e4 => ?_
        have s34 : Same H' H4 := s3.trans s4
        (repeat walk_at "rd")
        refine rd_ixT (st_of (s34 _ _ ht)) rfl ?_
        (repeat walk_at "rd")
        refine op_u_law_two ⟨bits, rfl, by omega, by omega, ?_⟩
        (repeat walk_at "rd")
        refine ⟨pow_nn _, ?_⟩
        (repeat walk_at "rd")
        refine rd_ixT (st_of (s34 _ _ ht)) rfl ?_
        (repeat walk_at "rd")
        refine rd_ixT (st_of (s34 _ _ ht)) rfl ?_
        (repeat walk_at "rd")
        intro t5 H5 n5 s5 e5
        refine rd_cat (s5 _ _ (s34 _ _ ev)) e5 (by
          rw [List.length_map, List.length_append, flatMap3_len _ (fun _ => rfl), List.length_take]
          show 3 + _ + 3 ≤ _
          omega) fun vp2 H6 n6 s6 e6 => ?_
        refine .a ⟨((sm.trans s34).trans s5).trans s6, wp2, vp2, ?_, ?_, _, rfl⟩
        · rw [s6 _ _ (s5 _ _ e4), statusW_snoc, List.map_append]
          rfl
        · rw [e6, take_snoc hmi, statusVals_snoc]
          simp only [List.map_append]
          rfl
    · obtain ⟨sm, wp, vp, ew, ev, x1, rfl⟩ := p.un
      rw [List.length_map, hpl] at ew ev
      rw [List.take_length] at ev
      have hok := status_ok (upto := upto) hb.1 hR hn8
      (repeat walk_at "rd")
      refine op_u_law_bytes ⟨wp, vp, _, _, rfl, sq_of ew, sq_of ev, hok, by rw [statusW_len]; omega, statusW_le29 hb.2, fun p3 H3 n3 s3 e3 => ?_⟩
      exact q p3 H3 (sm.free n3) (sm.trans s3) e3
def sp_u_law_many (K : PySem.W.Frag) : Sp := fun vs H Q _ => ∃ bits c : Int, vs = [.int bits, .int c] ∧ (0 ≤ bits ∧ bits ≤ 100) ∧ (0 ≤ c ∧ c ≤ 1000) ∧ Q (.int (statusBytes bits c)) H
@[irreducible] def ip_u_law_many (K : PySem.W.Frag) : Sp := sp_u_law_many K
theorem op_u_law_many {K : PySem.W.Frag} {vs : List V} {H : Hp} {Q : VK} {E : XK} (h : sp_u_law_many K vs H Q E) : ip_u_law_many K vs H Q E := by
  unfold ip_u_law_many
  exact h
theorem un_u_law_many {K : PySem.W.Frag} {vs : List V} {H : Hp} {Q : VK} {E : XK} (h : ip_u_law_many K vs H Q E) : sp_u_law_many K vs H Q E := by
  unfold ip_u_law_many at h
  exact h
theorem ok_u_law_many (T : Tx P w K mg base) : FnOk P w K mg base CX0 1 T.a_u_law_many T.d_u_law_many ["bits", "count"] (ip_u_law_many K) := by
  refine T.p_u_law_many.F.ok sc_u_law_many (fun vs H Q E h => ?_) (fun cdv A outer s H vs Q E hr h => ?_)
  · obtain ⟨bits, c, rfl, hb, hc, q⟩ := un_u_law_many h
    rfl
  · obtain ⟨bits, c, rfl, hb, hc, q⟩ := un_u_law_many h
    refine ⟨_, (pss_one (ps_ret (pe_op op_fdivM (pe_op op_addM (pe_op op_addM (pe_op op_addM pe_int (pv 0)) (pe_op op_mulM (pv 1) (pe_op op_addM (pv 0) pe_int))) pe_int) pe_int))), ?_⟩
    (repeat walk_at "rd")
    exact q
def sp_u_law_bit (K : PySem.W.Frag) : Sp := fun vs H Q _ => ∃ (a : Addr) (ds : List Int) (k : Int), vs = [.ref a, .int k] ∧ SqL K H a (ds.map V.int) ∧ 0 ≤ k ∧ k < 8 * (ds.length : Int) ∧ Q (.int (bitB ds k.toNat)) H
@[irreducible] def ip_u_law_bit (K : PySem.W.Frag) : Sp := sp_u_law_bit K
theorem op_u_law_bit {K : PySem.W.Frag} {vs : List V} {H : Hp} {Q : VK} {E : XK} (h : sp_u_law_bit K vs H Q E) : ip_u_law_bit K vs H Q E := by
  unfold ip_u_law_bit
  exact h
theorem un_u_law_bit {K : PySem.W.Frag} {vs : List V} {H : Hp} {Q : VK} {E : XK} (h : ip_u_law_bit K vs H Q E) : sp_u_law_bit K vs H Q E := by
  unfold ip_u_law_bit at h
  exact h
theorem ok_u_law_bit (T : Tx P w K mg base) : FnOk P w K mg base CX0 2 T.a_u_law_bit T.d_u_law_bit ["data", "at"] (ip_u_law_bit K) := by
  have G_u_law_two := ok_u_law_two T
  refine T.p_u_law_bit.F.ok sc_u_law_bit (fun vs H Q E h => ?_) (fun cdv A outer s H vs Q E hr h => ?_)
  · obtain ⟨a, ds, k, rfl, hA, h0, h1, q⟩ := un_u_law_bit h
    rfl
  · obtain ⟨a, ds, k, rfl, hA, h0, h1, q⟩ := un_u_law_bit h
    refine ⟨_, (pss_one (ps_ret (pe_op op_modM (pe_op op_fdivM (pe_ix ix_listM (pv 0) (pe_op op_fdivM (pv 1) pe_int) (fun _ _ => rfl)) (pe_call G_u_law_two (hr.mono (by decide)) rfl T.p_u_law_two.m T.p_u_law_two.F.kp T.p_u_law_two.b .nil pass0 (pa_cons (pe_op op_subM pe_int (pe_op op_modM (pv 1) pe_int)) pa_nil))) pe_int))), ?_⟩
    (repeat walk_at "rd")
    refine rd_ixI hA (by omega) (by omega) ?_
    (repeat walk_at "rd")
    refine op_u_law_two ⟨_, rfl, by omega, by omega, ?_⟩
    (repeat walk_at "rd")
    refine ⟨two_small (by omega) (by omega), ?_⟩
    (repeat walk_at "rd")
    refine q_int q ?_
    unfold bitB
    have e1 : (k / 8).toNat = k.toNat / 8 := by omega
    have e2 : (7 - k % 8).toNat = 7 - k.toNat % 8 := by omega
    rw [e1, e2]
def sp_u_law_field (K : PySem.W.Frag) : Sp := fun vs H Q _ => ∃ (a : Addr) (ds : List Int) (k w' : Int), vs = [.ref a, .int k, .int w'] ∧ SqL K H a (ds.map V.int) ∧ 0 ≤ k ∧ (0 ≤ w' ∧ w' ≤ 1000) ∧ k + w' ≤ 8 * (ds.length : Int) ∧ Q (.int (fieldB ds k.toNat w'.toNat)) H
@[irreducible] def ip_u_law_field (K : PySem.W.Frag) : Sp := sp_u_law_field K
theorem op_u_law_field {K : PySem.W.Frag} {vs : List V} {H : Hp} {Q : VK} {E : XK} (h : sp_u_law_field K vs H Q E) : ip_u_law_field K vs H Q E := by
  unfold ip_u_law_field
  exact h
theorem un_u_law_field {K : PySem.W.Frag} {vs : List V} {H : Hp} {Q : VK} {E : XK} (h : ip_u_law_field K vs H Q E) : sp_u_law_field K vs H Q E := by
  unfold ip_u_law_field at h
  exact h
theorem ok_u_law_field (T : Tx P w K mg base) : FnOk P w K mg base CX0 3 T.a_u_law_field T.d_u_law_field ["data", "at", "width"] (ip_u_law_field K) := by
  have G_u_law_bit := ok_u_law_bit T
  refine T.p_u_law_field.F.ok sc_u_law_field (fun vs H Q E h => ?_) (fun cdv A outer s H vs Q E hr h => ?_)
  · obtain ⟨a, ds, k, w', rfl, hA, h0, hw, h1, q⟩ := un_u_law_field h
    rfl
  · obtain ⟨a, ds, k, w', rfl, hA, h0, hw, h1, q⟩ := un_u_law_field h
    refine ⟨_, (pss_cons (ps_set (i := 3) sc_u_law_field.nd rfl (Or.inl rfl) pe_int) (pss_cons (ps_forR1 PassesOwn.never rfl rfl T.n_range (pa_cons (pv 2) pa_nil) (pg_name (i := 4) sc_u_law_field.nd rfl (Or.inl rfl)) (pss_one (ps_set (i := 3) sc_u_law_field.nd rfl (Or.inl rfl) (pe_op op_addM (pe_op op_mulM pe_int (pv 3)) (pe_call G_u_law_bit (hr.mono (by decide)) rfl T.p_u_law_bit.m T.p_u_law_bit.F.kp T.p_u_law_bit.b .nil pass0 (pa_cons (pv 0) (pa_cons (pe_op op_addM (pv 1) (pv 4)) pa_nil))))))) (pss_one (ps_ret (pv 3))))), ?_⟩
    (repeat walk_at "rd")
    refine rd_forR1 ?_
    (repeat walk_at "rd")
    refine ⟨w', fun i σ H' => Stop (H' = H ∧ ∃ x, σ = [some (.ref a), some (.int k), some (.int w'), some (.int (fieldB ds k.toNat i)), x]), rfl, ⟨by omega, by omega⟩, .a ⟨rfl, none, rfl⟩, fun i σ' H' hi p => ?_, fun σ' H' p => ?_⟩
    · obtain ⟨rfl, x, rfl⟩ := p.un
      (repeat walk_at "rd")
      refine op_u_law_bit ⟨a, ds, _, rfl, hA, by omega, by omega, ?_⟩
      (repeat walk_at "rd")
      have e : (k + (i : Int)).toNat = k.toNat + i := by omega
      rw [e]
      refine .a ⟨rfl, some (.int (i : Nat)), ?_⟩
      have st : fieldB ds k.toNat (i + 1) = 2 * fieldB ds k.toNat i + bitB ds (k.toNat + i) := by
        unfold fieldB
        rw [List.range_succ, List.foldl_append]
        rfl
      rw [st]
      rfl
    · obtain ⟨rfl, x, rfl⟩ := p.un
      (repeat walk_at "rd")
      exact q
def sp_u_law_read (K : PySem.W.Frag) : Sp := fun vs H Q _ => ∃ (bits : Int) (a : Addr) (ds : List Int), vs = [.int bits, .ref a] ∧ (1 ≤ bits ∧ bits ≤ 29) ∧ SqL K H a (ds.map V.int) ∧ (∀ d ∈ ds, 0 ≤ d ∧ d < 256) ∧ ds.length ≤ 10000 ∧ ∀ v H', Same H H' → PartsAt H' v (lawRead bits ds) → Q v H'
theorem RowsAt.grow {H' H2 : Hp} {D p : Addr} {ms : List (Int × Int × Int)} {r : Int × Int × Int} (h : RowsAt H' D ms) (s : Same H' H2) (hn : H' p = none) (ep : H2 p = some (.tup (rowV r))) :
    ∃ xs, H2 D = some (.lst xs) ∧ xs.length = ms.length ∧ RowsAt (upd H2 D (.lst (xs ++ [.ref p]))) D (ms ++ [r]) := by
  obtain ⟨ps, h1, h2, h3⟩ := h.ex
  refine ⟨ps.map V.ref, s _ _ h1, by rw [List.length_map, h2], ⟨ps ++ [p], ?_, by rw [List.length_append, List.length_append, h2]; rfl, fun i q x e1 e2 => ?_⟩⟩
  · rw [upd_same, List.map_append]
    rfl
  · by_cases hi : i < ps.length
    · rw [List.getElem?_append_left hi] at e1
      rw [List.getElem?_append_left (by omega)] at e2
      have e3 := h3 i q x e1 e2
      have hne : q ≠ D := by
        intro e
        rw [e, h1] at e3
        cases e3
      rw [upd_ne hne]
      exact s _ _ e3
    · have hi2 : i = ps.length := by
        have := (List.getElem?_eq_some_iff.mp e1).1
        rw [List.length_append] at this
        have e : [p].length = 1 := rfl
        omega
      subst hi2
      rw [List.getElem?_append_right (Nat.le_refl _), Nat.sub_self] at e1
      rw [h2, List.getElem?_append_right (Nat.le_refl _), Nat.sub_self] at e2
      cases e1
      cases e2
      have hne : p ≠ D := by
        intro e
        rw [e, h1] at hn
        cases hn
      rw [upd_ne hne]
      exact ep
theorem RowsAt.empty {H : Hp} {D : Addr} (h : H D = some (.lst [])) : RowsAt H D [] := ⟨[], h, rfl, fun i p r e _ => by cases e⟩
def rowL (bits : Int) (ds : List Int) (k : Nat) : Int × Int × Int := (fieldB ds (5 + bits + k * (bits + 16)).toNat bits.toNat, fieldB ds (5 + bits + k * (bits + 16) + bits).toNat 8, fieldB ds (5 + bits + k * (bits + 16) + bits + 8).toNat 8)
theorem range_snoc {α : Type} (f : Nat → α) (i : Nat) : (List.range (i + 1)).map f = (List.range i).map f ++ [f i] := by
  rw [List.range_succ, List.map_append]
  rfl
@[irreducible] def ip_u_law_read (K : PySem.W.Frag) : Sp := sp_u_law_read K
theorem op_u_law_read {K : PySem.W.Frag} {vs : List V} {H : Hp} {Q : VK} {E : XK} (h : sp_u_law_read K vs H Q E) : ip_u_law_read K vs H Q E := by
  unfold ip_u_law_read
  exact h
theorem un_u_law_read {K : PySem.W.Frag} {vs : List V} {H : Hp} {Q : VK} {E : XK} (h : ip_u_law_read K vs H Q E) : sp_u_law_read K vs H Q E := by
  unfold ip_u_law_read at h
  exact h
theorem ok_u_law_read (T : Tx P w K mg base) : FnOk P w K mg base CX0 4 T.a_u_law_read T.d_u_law_read ["bits", "data"] (ip_u_law_read K) := by
  have G_u_law_field := ok_u_law_field T
  have G_u_law_many := ok_u_law_many T
  refine T.p_u_law_read.F.ok sc_u_law_read (fun vs H Q E h => ?_) (fun cdv A outer s H vs Q E hr h => ?_)
  · obtain ⟨bits, a, ds, rfl, hb, hA, hd, hl, q⟩ := un_u_law_read h
    rfl
  · obtain ⟨bits, a, ds, rfl, hb, hA, hd, hl, q⟩ := un_u_law_read h
    refine ⟨_, (pss_cons (ps_ifM (pt_cmpR op_eq (pe_callB call_lenM (by rfl) T.n_len PySem.boot_len (pa_cons (pv 1) pa_nil)) pe_int (nomark _)) (pss_one (ps_ret pe_non)) pss_nil) (pss_cons (ps_ifM (pt_cmpR op_geM (pe_ix ix_listM (pv 1) pe_int (fun _ _ => rfl)) pe_int (nomark _)) (pss_cons (ps_ifM (pt_cmpR op_ltM (pe_callB call_lenM (by rfl) T.n_len PySem.boot_len (pa_cons (pv 1) pa_nil)) (pe_call G_u_law_many (hr.mono (by decide)) rfl T.p_u_law_many.m T.p_u_law_many.F.kp T.p_u_law_many.b .nil pass0 (pa_cons (pv 0) (pa_cons pe_int pa_nil))) (nomark _)) (pss_one (ps_ret pe_non)) pss_nil) (pss_cons (ps_set (i := 2) sc_u_law_read.nd rfl (Or.inl rfl) (pe_call G_u_law_field (hr.mono (by decide)) rfl T.p_u_law_field.m T.p_u_law_field.F.kp T.p_u_law_field.b .nil pass0 (pa_cons (pv 1) (pa_cons (pe_op op_addM pe_int (pv 0)) (pa_cons pe_int pa_nil))))) (pss_cons (ps_ifM (PW.pt (pw_orM (pt_cmpR op_gtM (pv 2) pe_int (nomark _)) (pw_or1 (pt_cmpR op_ne (pe_callB call_lenM (by rfl) T.n_len PySem.boot_len (pa_cons (pv 1) pa_nil)) (pe_call G_u_law_many (hr.mono (by decide)) rfl T.p_u_law_many.m T.p_u_law_many.F.kp T.p_u_law_many.b .nil pass0 (pa_cons (pv 0) (pa_cons (pv 2) pa_nil))) (nomark _))))) (pss_one (ps_ret pe_non)) pss_nil) (pss_cons (ps_set (i := 3) sc_u_law_read.nd rfl (Or.inl rfl) (pe_lstM pa_nil)) (pss_cons (ps_forR1 PassesOwn.never rfl rfl T.n_range (pa_cons (pv 2) pa_nil) (pg_name (i := 4) sc_u_law_read.nd rfl (Or.inl rfl)) (pss_cons (ps_set (i := 5) sc_u_law_read.nd rfl (Or.inl rfl) (pe_op op_addM (pe_op op_addM pe_int (pv 0)) (pe_op op_mulM (pv 4) (pe_op op_addM (pv 0) pe_int)))) (pss_cons (ps_set (i := 6) sc_u_law_read.nd rfl (Or.inl rfl) (pe_tupM (pa_cons (pe_call G_u_law_field (hr.mono (by decide)) rfl T.p_u_law_field.m T.p_u_law_field.F.kp T.p_u_law_field.b .nil pass0 (pa_cons (pv 1) (pa_cons (pv 5) (pa_cons (pv 0) pa_nil)))) (pa_cons (pe_call G_u_law_field (hr.mono (by decide)) rfl T.p_u_law_field.m T.p_u_law_field.F.kp T.p_u_law_field.b .nil pass0 (pa_cons (pv 1) (pa_cons (pe_op op_addM (pv 5) (pv 0)) (pa_cons pe_int pa_nil)))) (pa_cons (pe_call G_u_law_field (hr.mono (by decide)) rfl T.p_u_law_field.m T.p_u_law_field.F.kp T.p_u_law_field.b .nil pass0 (pa_cons (pv 1) (pa_cons (pe_op op_addM (pe_op op_addM (pv 5) (pv 0)) pe_int) (pa_cons pe_int pa_nil)))) pa_nil))))) (pss_one (ps_expr (pe_app (pv 3) (pv 6))))))) (pss_one (ps_ret (pe_tupM (pa_cons pe_str (pa_cons (pe_call G_u_law_field (hr.mono (by decide)) rfl T.p_u_law_field.m T.p_u_law_field.F.kp T.p_u_law_field.b .nil pass0 (pa_cons (pv 1) (pa_cons pe_int (pa_cons (pv 0) pa_nil)))) (pa_cons (pv 3) pa_nil))))))))))) pss_nil) (pss_cons (ps_set (i := 7) sc_u_law_read.nd rfl (Or.inl rfl) (pe_op op_fdivM (pe_op op_addM (pe_op op_addM pe_int (pv 0)) pe_int) pe_int)) (pss_cons (ps_ifM (pt_cmpR op_ltM (pe_callB call_lenM (by rfl) T.n_len PySem.boot_len (pa_cons (pv 1) pa_nil)) (pv 7) (nomark _)) (pss_one (ps_ret pe_non)) pss_nil) (pss_cons (ps_set (i := 8) sc_u_law_read.nd rfl (Or.inl rfl) (pe_call G_u_law_field (hr.mono (by decide)) rfl T.p_u_law_field.m T.p_u_law_field.F.kp T.p_u_law_field.b .nil pass0 (pa_cons (pv 1) (pa_cons (pe_op op_addM pe_int (pv 0)) (pa_cons pe_int pa_nil))))) (pss_cons (ps_set (i := 9) sc_u_law_read.nd rfl (Or.inl rfl) pe_int) (pss_cons (ps_ifM (pt_cmpR op_gtM (pv 8) pe_int (nomark _)) (pss_one (ps_set (i := 7) sc_u_law_read.nd rfl (Or.inl rfl) (pe_op op_fdivM (pe_op op_addM (pe_op op_addM pe_int (pv 0)) pe_int) pe_int))) pss_nil) (pss_cons (ps_ifM (pt_cmpR op_leM (pe_callB call_lenM (by rfl) T.n_len PySem.boot_len (pa_cons (pv 1) pa_nil)) (pv 7) (nomark _)) (pss_one (ps_ret pe_non)) pss_nil) (pss_cons (ps_ifM (pt_cmpR op_gtM (pv 8) pe_int (nomark _)) (pss_one (ps_set (i := 9) sc_u_law_read.nd rfl (Or.inl rfl) (pe_call G_u_law_field (hr.mono (by decide)) rfl T.p_u_law_field.m T.p_u_law_field.F.kp T.p_u_law_field.b .nil pass0 (pa_cons (pv 1) (pa_cons (pe_op op_addM pe_int (pv 0)) (pa_cons pe_int pa_nil)))))) pss_nil) (pss_one (ps_ret (pe_tupM (pa_cons pe_str (pa_cons (pe_cmpR op_geM (pe_ix ix_listM (pv 1) pe_int (fun _ _ => rfl)) pe_int (nomark _)) (pa_cons (pe_call G_u_law_field (hr.mono (by decide)) rfl T.p_u_law_field.m T.p_u_law_field.F.kp T.p_u_law_field.b .nil pass0 (pa_cons (pv 1) (pa_cons pe_int (pa_cons (pv 0) pa_nil)))) (pa_cons (pv 8) (pa_cons (pv 9) (pa_cons (pe_slice sl_listM (pv 1) (po_some (pv 7)) po_none) pa_nil)))))))))))))))))), ?_⟩
    (repeat walk_at "rd")
    refine br_eby (fun h => ?_) (fun h => ?_)
    · (repeat walk_at "rd")
      refine q _ _ (Same.refl _) ?_
      unfold lawRead
      rw [if_pos (by omega)]
      rfl
    have h0 : ds.length ≠ 0 := by omega
    (repeat walk_at "rd")
    refine rd_ixI hA (by decide) (by omega) ?_
    (repeat walk_at "rd")
    refine br_by (fun h1 => ?_) (fun h1 => ?_)
    · have h1 : 128 ≤ ds.getD 0 0 := h1
      (repeat walk_at "rd")
      refine op_u_law_many ⟨bits, 0, rfl, ⟨by omega, by omega⟩, by decide, ?_⟩
      (repeat walk_at "rd")
      have e0 : statusBytes bits 0 = (5 + bits + 7) / 8 := by unfold statusBytes; simp
      refine br_by (fun h2 => ?_) (fun h2 => ?_)
      · (repeat walk_at "rd")
        refine q _ _ (Same.refl _) ?_
        unfold lawRead
        rw [if_neg h0, if_pos h1, if_pos h2]
        rfl
      (repeat walk_at "rd")
      refine op_u_law_field ⟨a, ds, _, _, rfl, hA, by omega, by decide, by omega, ?_⟩
      (repeat walk_at "rd")
      have hcb := field_bound ds (1 + bits).toNat 4
      have e16 : (2 : Int) ^ 4 = 16 := by decide
      rw [e16] at hcb
      have e4 : (4 : Int).toNat = 4 := rfl
      rw [e4]
      have hlr := fun (h8 : ¬ (8 < fieldB ds (1 + bits).toNat 4 ∨ (ds.length : Int) ≠ statusBytes bits (fieldB ds (1 + bits).toNat 4))) => show lawRead bits ds = some (.status (fieldB ds 1 bits.toNat) ((List.range (fieldB ds (1 + bits).toNat 4).toNat).map (rowL bits ds))) by
        unfold lawRead
        rw [if_neg h0, if_pos h1, if_neg h2, if_neg h8]
        rfl
      have hln := fun (h8 : 8 < fieldB ds (1 + bits).toNat 4 ∨ (ds.length : Int) ≠ statusBytes bits (fieldB ds (1 + bits).toNat 4)) => show lawRead bits ds = none by
        unfold lawRead
        rw [if_neg h0, if_pos h1, if_neg h2, if_pos h8]
      generalize fieldB ds (1 + bits).toNat 4 = c at hcb hlr hln
      refine br_by (fun h8 => ?_) (fun h8 => ?_)
      · (repeat walk_at "rd")
        refine q _ _ (Same.refl _) ?_
        rw [hln (.inl h8)]
        rfl
      (repeat walk_at "rd")
      refine op_u_law_many ⟨bits, c, rfl, ⟨by omega, by omega⟩, ⟨by omega, by omega⟩, ?_⟩
      (repeat walk_at "rd")
      refine br_enby (fun hne => ?_) (fun heq => ?_)
      · (repeat walk_at "rd")
        refine q _ _ (Same.refl _) ?_
        rw [hln (.inr hne)]
        rfl
      have hlr := hlr (by omega)
      have hlen : (ds.length : Int) = (5 + bits + c * (bits + 16) + 7) / 8 := heq
      (repeat walk_at "rd")
      intro D H1 n1 s1 e1
      (repeat walk_at "rd")
      refine rd_forR1 ?_
      (repeat walk_at "rd")
      refine ⟨c, fun i σ H' => Stop (Same H H' ∧ RowsAt H' D ((List.range i).map (rowL bits ds)) ∧ ∃ x y z, σ = [some (.int bits), some (.ref a), some (.int c), some (.ref D), x, y, z, none, none, none]), rfl, ⟨by omega, by omega⟩, .a ⟨s1, RowsAt.empty e1, _, _, _, rfl⟩, fun i σ' H' hi p => ?_, fun σ' H' p => ?_⟩
      · obtain ⟨sm, rows, x, y, z, rfl⟩ := p.un
        have hic : (i : Int) + 1 ≤ c := by omega
        have hm := Int.mul_le_mul_of_nonneg_right hic (show (0 : Int) ≤ bits + 16 by omega)
        rw [Int.add_mul, Int.one_mul] at hm
        have hk0 : 0 ≤ (i : Int) * (bits + 16) := Int.mul_nonneg (by omega) (by omega)
        (repeat walk_at "rd")
        refine op_u_law_field ⟨a, ds, _, _, rfl, sm.seq hA, by omega, by omega, by omega, ?_⟩
        (repeat walk_at "rd")
        refine op_u_law_field ⟨a, ds, _, _, rfl, sm.seq hA, by omega, by omega, by omega, ?_⟩
        (repeat walk_at "rd")
        refine op_u_law_field ⟨a, ds, _, _, rfl, sm.seq hA, by omega, by omega, by omega, ?_⟩
        (repeat walk_at "rd")
        intro t H4 n4 s4 e4
        obtain ⟨xs, ex, hxl, rows2⟩ := rows.grow (r := rowL bits ds i) s4 n4 e4
        (repeat walk_at "rd")
        refine rd_app ex (by rw [hxl, List.length_map, List.length_range]; omega) ?_
        exact .a ⟨same_mut (sm.trans s4) n1, by rw [range_snoc]; exact rows2, _, _, _, rfl⟩
      · obtain ⟨sm, rows, x, y, z, rfl⟩ := p.un
        (repeat walk_at "rd")
        refine op_u_law_field ⟨a, ds, _, _, rfl, sm.seq hA, by omega, by omega, by omega, ?_⟩
        (repeat walk_at "rd")
        intro t H4 n4 s4 e4
        refine q _ _ (sm.trans s4) ?_
        rw [hlr]
        exact ⟨t, D, rfl, e4, rows.mono s4⟩
    · have h1 : ¬ 128 ≤ ds.getD 0 0 := h1
      (repeat walk_at "rd")
      refine br_by (fun h2 => ?_) (fun h2 => ?_)
      · (repeat walk_at "rd")
        refine q _ _ (Same.refl _) ?_
        unfold lawRead
        rw [if_neg h0, if_neg h1, if_pos h2]
        rfl
      (repeat walk_at "rd")
      refine op_u_law_field ⟨a, ds, _, _, rfl, hA, by omega, by decide, by omega, ?_⟩
      (repeat walk_at "rd")
      have hpb := field_bound ds (2 + bits).toNat 2
      have e4 : (2 : Int) ^ 2 = 4 := by decide
      rw [e4] at hpb
      have e2 : (2 : Int).toNat = 2 := rfl
      rw [e2]
      have hlr : lawRead bits ds = (if (ds.length : Int) ≤ (if 1 < fieldB ds (2 + bits).toNat 2 then (12 + bits + 7) / 8 else (4 + bits + 7) / 8) then none else some (.data (decide (64 ≤ ds.getD 0 0)) (fieldB ds 2 bits.toNat) (fieldB ds (2 + bits).toNat 2) (if 1 < fieldB ds (2 + bits).toNat 2 then fieldB ds (4 + bits).toNat 8 else 0) (ds.drop (if 1 < fieldB ds (2 + bits).toNat 2 then (12 + bits + 7) / 8 else (4 + bits + 7) / 8).toNat))) := by
        unfold lawRead
        rw [if_neg h0, if_neg h1, if_neg h2]
      generalize fieldB ds (2 + bits).toNat 2 = part at hpb hlr
      refine br_by (fun h3 => ?_) (fun h3 => ?_)
      · rw [if_pos h3, if_pos h3] at hlr
        (repeat walk_at "rd")
        refine br_by (fun h5 => ?_) (fun h5 => ?_)
        · (repeat walk_at "rd")
          refine q _ _ (Same.refl _) ?_
          rw [hlr, if_pos h5]
          rfl
        rw [if_neg h5] at hlr
        (repeat walk_at "rd")
        refine br_t h3 ?_
        (repeat walk_at "rd")
        refine op_u_law_field ⟨a, ds, _, _, rfl, hA, by omega, by decide, by omega, ?_⟩
        (repeat walk_at "rd")
        refine rd_ixI hA (by decide) (by omega) ?_
        (repeat walk_at "rd")
        refine op_u_law_field ⟨a, ds, _, _, rfl, hA, by omega, by omega, by omega, ?_⟩
        (repeat walk_at "rd")
        refine rd_sl hA fun b H5 n5 s5 e5 => ?_
        rw [cutV_from (by omega)] at e5
        (repeat walk_at "rd")
        intro t H6 n6 s6 e6
        refine q _ _ (s5.trans s6) ?_
        rw [hlr]
        exact ⟨t, b, rfl, e6, s6 _ _ e5⟩
      · rw [if_neg h3, if_neg h3] at hlr
        (repeat walk_at "rd")
        refine br_by (fun h5 => ?_) (fun h5 => ?_)
        · (repeat walk_at "rd")
          refine q _ _ (Same.refl _) ?_
          rw [hlr, if_pos h5]
          rfl
        rw [if_neg h5] at hlr
        (repeat walk_at "rd")
        refine br_f h3 ?_
        (repeat walk_at "rd")
        refine rd_ixI hA (by decide) (by omega) ?_
        (repeat walk_at "rd")
        refine op_u_law_field ⟨a, ds, _, _, rfl, hA, by omega, by omega, by omega, ?_⟩
        (repeat walk_at "rd")
        refine rd_sl hA fun b H5 n5 s5 e5 => ?_
        rw [cutV_from (by omega)] at e5
        (repeat walk_at "rd")
        intro t H6 n6 s6 e6
        refine q _ _ (s5.trans s6) ?_
        rw [hlr]
        exact ⟨t, b, rfl, e6, s6 _ _ e5⟩
def sp_u_law_refused (K : PySem.W.Frag) : Sp := fun vs H Q _ => ∃ (bits : Int) (a : Addr) (ms : List (Int × Int × Int)), vs = [.int bits, .ref a] ∧ (1 ≤ bits ∧ bits ≤ 29) ∧ RowsAt H a ms ∧ RowsOk ms ∧ 8 < ms.length ∧ ∀ H', Same H H' → Q (.bl true) H'
@[irreducible] def ip_u_law_refused (K : PySem.W.Frag) : Sp := sp_u_law_refused K
theorem op_u_law_refused {K : PySem.W.Frag} {vs : List V} {H : Hp} {Q : VK} {E : XK} (h : sp_u_law_refused K vs H Q E) : ip_u_law_refused K vs H Q E := by
  unfold ip_u_law_refused
  exact h
theorem un_u_law_refused {K : PySem.W.Frag} {vs : List V} {H : Hp} {Q : VK} {E : XK} (h : ip_u_law_refused K vs H Q E) : sp_u_law_refused K vs H Q E := by
  unfold ip_u_law_refused at h
  exact h
theorem ok_u_law_refused (T : Tx P w K mg base) : FnOk P w K mg base CX0 6 T.a_u_law_refused T.d_u_law_refused ["bits", "missing"] (ip_u_law_refused K) := by
  have G_status_piece := ok_status_piece T
  refine T.p_u_law_refused.F.ok sc_u_law_refused (fun vs H Q E h => ?_) (fun cdv A outer s H vs Q E hr h => ?_)
  · obtain ⟨bits, a, ms, rfl, hb, hA, hR, h9, q⟩ := un_u_law_refused h
    rfl
  · obtain ⟨bits, a, ms, rfl, hb, hA, hR, h9, q⟩ := un_u_law_refused h
    refine ⟨_, (pss_cons (ps_try_as (i := 2) rfl rfl sc_u_law_refused.nd rfl rfl ⟨rfl, by decide, .inl T.g_BearerError⟩ takes0 (fun W pn xe tk po => (pss_one (ps_expr (pe_callS G_status_piece (hr.mono (by decide)) rfl T.p_status_piece.m T.p_status_piece.F.kp T.p_status_piece.b (fun σ => passAt tk σ) (pa_cons (pv 0) (pa_cons pe_int (pa_cons (pv 1) pa_nil))))))) (fun a oe cls d pn hz hf => (pss_one (ps_ret (pe_callB (call_isEM hz hf) (by rfl) T.n_isinstance (by decide +kernel) (pa_cons (pv 2) (pa_cons (pe_glob (v := .ref T.C_NotValid) rfl T.g_NotValid rfl) pa_nil))))))) (pss_one (ps_ret pe_bl))), ?_⟩
    (repeat walk_at "rd")
    refine op_status_piece ⟨bits, 0, a, ms, rfl, ⟨by omega, by omega⟩, hA, hR, fun h => absurd h (by omega), fun _ H1 s1 => ⟨true, T.m_NotValid_BearerError, fun _ x hx => ?_, fun z => Bool.noConfusion z⟩⟩
    (repeat walk_at "rd")
    refine ⟨_, _, _, rfl, rfl, rfl, T.e_NotValid, kit_same, ?_⟩
    (repeat walk_at "rd")
    exact q H1 s1
def sp_u_law_bent (K : PySem.W.Frag) : Sp := fun vs H Q _ => ∃ (tp : Addr) (ts : List Int) (a : Addr) (ds : List Int) (start : Int), vs = [.ref tp, .ref a, .int start] ∧ SqL K H tp (ts.map V.int) ∧ TapeOk ts ∧ SqL K H a (ds.map V.int) ∧ (∀ d ∈ ds, 0 ≤ d ∧ d < 256) ∧ (1 ≤ ds.length ∧ ds.length ≤ 1000) ∧ (0 ≤ start ∧ start ≤ 100) ∧ ∀ es : List Int, (∀ d ∈ es, 0 ≤ d ∧ d < 256) → es.length ≤ 2000 → NewO (.lst (es.map V.int)) H Q
@[irreducible] def ip_u_law_bent (K : PySem.W.Frag) : Sp := sp_u_law_bent K
theorem op_u_law_bent {K : PySem.W.Frag} {vs : List V} {H : Hp} {Q : VK} {E : XK} (h : sp_u_law_bent K vs H Q E) : ip_u_law_bent K vs H Q E := by
  unfold ip_u_law_bent
  exact h
theorem un_u_law_bent {K : PySem.W.Frag} {vs : List V} {H : Hp} {Q : VK} {E : XK} (h : ip_u_law_bent K vs H Q E) : sp_u_law_bent K vs H Q E := by
  unfold ip_u_law_bent at h
  exact h
theorem ok_u_law_bent (T : Tx P w K mg base) : FnOk P w K mg base CX0 2 T.a_u_law_bent T.d_u_law_bent ["tape", "piece", "start"] (ip_u_law_bent K) := by
  have G_u_law_at := ok_u_law_at T
  refine T.p_u_law_bent.F.ok sc_u_law_bent (fun vs H Q E h => ?_) (fun cdv A outer s H vs Q E hr h => ?_)
  · obtain ⟨tp, ts, a, ds, start, rfl, hT, hts, hA, hd, hn, hst, q⟩ := un_u_law_bent h
    rfl
  · obtain ⟨tp, ts, a, ds, start, rfl, hT, hts, hA, hd, hn, hst, q⟩ := un_u_law_bent h
    refine ⟨_, (pss_cons (ps_set (i := 3) sc_u_law_bent.nd rfl (Or.inl rfl) (pe_op op_modM (pe_call G_u_law_at (hr.mono (by decide)) rfl T.p_u_law_at.m T.p_u_law_at.F.kp T.p_u_law_at.b .nil pass0 (pa_cons (pv 0) (pa_cons (pv 2) pa_nil))) pe_int)) (pss_cons (ps_set (i := 4) sc_u_law_bent.nd rfl (Or.inl rfl) (pe_op op_modM (pe_call G_u_law_at (hr.mono (by decide)) rfl T.p_u_law_at.m T.p_u_law_at.F.kp T.p_u_law_at.b .nil pass0 (pa_cons (pv 0) (pa_cons (pe_op op_addM (pv 2) pe_int) pa_nil))) (pe_callB call_lenM (by rfl) T.n_len PySem.boot_len (pa_cons (pv 1) pa_nil)))) (pss_cons (ps_set (i := 5) sc_u_law_bent.nd rfl (Or.inl rfl) (pe_op op_modM (pe_call G_u_law_at (hr.mono (by decide)) rfl T.p_u_law_at.m T.p_u_law_at.F.kp T.p_u_law_at.b .nil pass0 (pa_cons (pv 0) (pa_cons (pe_op op_addM (pv 2) pe_int) pa_nil))) pe_int)) (pss_cons (ps_ifM (pt_cmpR op_eq (pv 3) pe_int (nomark _)) (pss_one (ps_ret (pe_op op_catM (pe_slice sl_listM (pv 1) po_none (po_some (pv 4))) (pe_slice sl_listM (pv 1) (po_some (pe_op op_addM (pv 4) pe_int)) po_none)))) pss_nil) (pss_cons (ps_ifM (pt_cmpR op_eq (pv 3) pe_int (nomark _)) (pss_one (ps_ret (pe_op op_catM (pe_op op_catM (pe_slice sl_listM (pv 1) po_none (po_some (pv 4))) (pe_lstM (pa_cons (pv 5) pa_nil))) (pe_slice sl_listM (pv 1) (po_some (pv 4)) po_none)))) pss_nil) (pss_cons (ps_ifM (pt_cmpR op_eq (pv 3) pe_int (nomark _)) (pss_one (ps_ret (pe_op op_catM (pe_op op_catM (pe_slice sl_listM (pv 1) po_none (po_some (pv 4))) (pe_lstM (pa_cons (pv 5) pa_nil))) (pe_slice sl_listM (pv 1) (po_some (pe_op op_addM (pv 4) pe_int)) po_none)))) pss_nil) (pss_cons (ps_ifM (pt_cmpR op_eq (pv 3) pe_int (nomark _)) (pss_one (ps_ret (pe_slice sl_listM (pv 1) po_none (po_some (pv 4))))) pss_nil) (pss_one (ps_ret (pe_lcR1 rfl sc_u_law_bent.nd rfl T.n_range (pa_cons (pe_op op_modM (pe_call G_u_law_at (hr.mono (by decide)) rfl T.p_u_law_at.m T.p_u_law_at.F.kp T.p_u_law_at.b .nil pass0 (pa_cons (pv 0) (pa_cons (pe_op op_addM (pv 2) pe_int) pa_nil))) pe_int) pa_nil) (blkOk_by (own := [("k", 6)]) (N := ["tape", "piece", "start", "kind", "at", "byte", "k"]) (sc := defScope S_u_law_bent) (by decide +kernel)) (fun _ _ _ _ _ => (pg_name (i := 6) sc_u_law_bent.nd rfl (Or.inl rfl))) (fun _ _ _ _ _ => (pe_op op_modM (pe_call G_u_law_at (hr.mono (by decide)) rfl T.p_u_law_at.m T.p_u_law_at.F.kp T.p_u_law_at.b .nil pass0 (pa_cons (pv 0) (pa_cons (pe_op op_addM (pe_op op_addM (pv 2) pe_int) (pv 6)) pa_nil))) pe_int)))))))))))), ?_⟩
    have tk : ∀ k, ∀ d ∈ ds.take k, 0 ≤ d ∧ d < 256 := fun k d h => hd d (List.mem_of_mem_take h)
    have dk : ∀ k, ∀ d ∈ ds.drop k, 0 ≤ d ∧ d < 256 := fun k d h => hd d (List.mem_of_mem_drop h)
    have ap : ∀ xs ys : List Int, (∀ d ∈ xs, 0 ≤ d ∧ d < 256) → (∀ d ∈ ys, 0 ≤ d ∧ d < 256) → ∀ d ∈ xs ++ ys, 0 ≤ d ∧ d < 256 := fun xs ys h1 h2 d h => (List.mem_append.mp h).elim (h1 d) (h2 d)
    (repeat walk_at "rd")
    refine op_u_law_at ⟨tp, ts, _, rfl, hT, hts, by omega, fun x0 a0 b0 _ => ?_⟩
    (repeat walk_at "rd")
    refine op_u_law_at ⟨tp, ts, _, rfl, hT, hts, by omega, fun x1 a1 b1 _ => ?_⟩
    (repeat walk_at "rd")
    have hat : 0 ≤ x1 % (ds.length : Int) ∧ x1 % (ds.length : Int) < (ds.length : Int) := ⟨Int.emod_nonneg _ (by omega), Int.emod_lt_of_pos _ (by omega)⟩
    refine op_u_law_at ⟨tp, ts, _, rfl, hT, hts, by omega, fun x2 a2 b2 _ => ?_⟩
    have hby : ∀ d ∈ [x2 % 256], 0 ≤ d ∧ d < 256 := fun d h => by rw [List.mem_singleton.mp h]; omega
    generalize x1 % (ds.length : Int) = at' at hat
    (repeat walk_at "rd")
    refine br_eby (fun hk => ?_) (fun hk0 => ?_)
    · (repeat walk_at "rd")
      refine rd_sl hA fun b1 H1 n1 s1 e1 => ?_
      rw [cutV_to hat.1] at e1
      (repeat walk_at "rd")
      refine rd_sl (s1.seq hA) fun b2 H2 n2 s2 e2 => ?_
      rw [cutV_from (by omega)] at e2
      refine rd_cat (s2 _ _ e1) e2 (by simp only [List.length_map, List.length_take, List.length_drop]; omega) fun p H3 n3 s3 e3 => ?_
      (repeat walk_at "rd")
      exact q _ (ap _ _ (tk _) (dk _)) (by simp only [List.length_append, List.length_take, List.length_drop]; omega) p H3 ((s1.trans s2).free n3) ((s1.trans s2).trans s3) (by rw [e3, List.map_append])
    (repeat walk_at "rd")
    refine br_eby (fun hk => ?_) (fun hk1 => ?_)
    · (repeat walk_at "rd")
      refine rd_sl hA fun b1 H1 n1 s1 e1 => ?_
      rw [cutV_to hat.1] at e1
      (repeat walk_at "rd")
      intro b2 H2 n2 s2 e2
      refine rd_cat (s2 _ _ e1) e2 (by simp only [List.length_map, List.length_take]; show _ + 1 ≤ _; omega) fun b3 H3 n3 s3 e3 => ?_
      have s13 : Same H H3 := (s1.trans s2).trans s3
      (repeat walk_at "rd")
      refine rd_sl (s13.seq hA) fun b4 H4 n4 s4 e4 => ?_
      rw [cutV_from (by omega)] at e4
      refine rd_cat (s4 _ _ e3) e4 (by simp only [List.length_append, List.length_map, List.length_take, List.length_drop]; show _ + 1 + _ ≤ _; omega) fun p H5 n5 s5 e5 => ?_
      (repeat walk_at "rd")
      exact q (ds.take at'.toNat ++ [x2 % 256] ++ ds.drop at'.toNat) (ap _ _ (ap _ _ (tk _) hby) (dk _)) (by simp only [List.length_append, List.length_take, List.length_drop]; show _ + 1 + _ ≤ _; omega) p H5 ((s13.trans s4).free n5) ((s13.trans s4).trans s5) (by rw [e5, List.map_append, List.map_append]; rfl)
    (repeat walk_at "rd")
    refine br_eby (fun hk => ?_) (fun hk2 => ?_)
    · (repeat walk_at "rd")
      refine rd_sl hA fun b1 H1 n1 s1 e1 => ?_
      rw [cutV_to hat.1] at e1
      (repeat walk_at "rd")
      intro b2 H2 n2 s2 e2
      refine rd_cat (s2 _ _ e1) e2 (by simp only [List.length_map, List.length_take]; show _ + 1 ≤ _; omega) fun b3 H3 n3 s3 e3 => ?_
      have s13 : Same H H3 := (s1.trans s2).trans s3
      (repeat walk_at "rd")
      refine rd_sl (s13.seq hA) fun b4 H4 n4 s4 e4 => ?_
      rw [cutV_from (by omega)] at e4
      refine rd_cat (s4 _ _ e3) e4 (by simp only [List.length_append, List.length_map, List.length_take, List.length_drop]; show _ + 1 + _ ≤ _; omega) fun p H5 n5 s5 e5 => ?_
      (repeat walk_at "rd")
      exact q (ds.take at'.toNat ++ [x2 % 256] ++ ds.drop (at' + 1).toNat) (ap _ _ (ap _ _ (tk _) hby) (dk _)) (by simp only [List.length_append, List.length_take, List.length_drop]; show _ + 1 + _ ≤ _; omega) p H5 ((s13.trans s4).free n5) ((s13.trans s4).trans s5) (by rw [e5, List.map_append, List.map_append]; rfl)
    (repeat walk_at "rd")
    refine br_eby (fun hk => ?_) (fun hk3 => ?_)
    · (repeat walk_at "rd")
      refine rd_sl hA fun b1 H1 n1 s1 e1 => ?_
      rw [cutV_to hat.1] at e1
      exact q _ (tk _) (by simp only [List.length_take]; omega) b1 H1 n1 s1 e1
    (repeat walk_at "rd")
    refine rd_lcR1 ?_
    (repeat walk_at "rd")
    refine op_u_law_at ⟨tp, ts, _, rfl, hT, hts, by omega, fun x3 a3 b3 _ => ?_⟩
    (repeat walk_at "rd")
    refine ⟨_, fun i => .int (ts.getD (start + 3 + (i : Int)).toNat 0 % 256), rfl, ⟨by omega, by omega⟩, fun i hi H' s' => ?_, fun pp H3 n3 s3 e3 => ?_⟩
    · (repeat walk_at "rd")
      refine op_u_law_at ⟨tp, ts, _, rfl, s'.seq hT, hts, by omega, fun x a b ex => ?_⟩
      (repeat walk_at "rd")
      refine ⟨?_, Same.refl _⟩
      rw [ex]
    · refine q ((List.range (x3 % 31).toNat).map fun (i : Nat) => ts.getD (start + 3 + (i : Int)).toNat 0 % 256) (fun d h => ?_) (by rw [List.length_map, List.length_range]; omega) pp H3 n3 s3 ?_
      · obtain ⟨k, _, rfl⟩ := List.mem_map.mp h
        omega
      · rw [e3, List.map_map]
        rfl
def sp_law (K : PySem.W.Frag) : Sp := fun vs H Q _ => ∃ (a : Addr) (ns : List Int), vs = [.ref a] ∧ SqL K H a (ns.map V.int) ∧ ns.length ≤ 63 ∧ ∀ H', Q (.bl true) H'
theorem cpS {F : L2.St → Hp → Prop} {σ σ' : L2.St} {H : Hp} (e : σ' = σ) (h : F σ' H) : F σ H := e ▸ h
def dueR (bits : Int) (r : Int × Int × Int) : Int × Int × Int := (r.1 % 2 ^ bits.toNat, r.2.1, r.2.2)
@[irreducible] def ip_law (K : PySem.W.Frag) : Sp := sp_law K
theorem op_law {K : PySem.W.Frag} {vs : List V} {H : Hp} {Q : VK} {E : XK} (h : sp_law K vs H Q E) : ip_law K vs H Q E := by
  unfold ip_law
  exact h
theorem un_law {K : PySem.W.Frag} {vs : List V} {H : Hp} {Q : VK} {E : XK} (h : ip_law K vs H Q E) : sp_law K vs H Q E := by
  unfold ip_law at h
  exact h
theorem ok_law (T : Tx P w K mg base) : FnOk P w K mg base CX0 7 T.a_law T.d_law ["script"] (ip_law K) := by
  have G_u_law_tape := ok_u_law_tape T
  have G_data_piece := ok_data_piece T
  have G_status_piece := ok_status_piece T
  have G_u_law_at := ok_u_law_at T
  have G_read_piece := ok_read_piece T
  have G_u_law_refused := ok_u_law_refused T
  have G_u_law_bent := ok_u_law_bent T
  have G_u_law_data := ok_u_law_data T
  have G_u_law_status := ok_u_law_status T
  have G_status_bytes := ok_status_bytes T
  have G_u_law_two := ok_u_law_two T
  have G_u_law_read := ok_u_law_read T
  refine T.p_law.F.ok sc_law (fun vs H Q E h => ?_) (fun cdv A outer s H vs Q E hr h => ?_)
  · obtain ⟨a, ns, rfl, hS, hlen, q⟩ := un_law h
    rfl
  · obtain ⟨a, ns, rfl, hS, hlen, q⟩ := un_law h
    refine ⟨_, (pss_cons (ps_ifM (PW.pt (pw_orM (pt_cmpR op_ne (pe_gint rfl T.g_MOST_BYTES) pe_int (nomark _)) (pw_or1 (pt_cmpR op_ne (pe_gint rfl T.g_MOST_MISSING) pe_int (nomark _))))) (pss_one (ps_ret pe_bl)) pss_nil) (pss_cons (ps_set (i := 1) sc_law.nd rfl (Or.inr rfl) (pe_call G_u_law_tape (hr.mono (by decide)) rfl T.p_u_law_tape.m T.p_u_law_tape.F.kp T.p_u_law_tape.b .nil pass0 (pa_cons (pv 0) pa_nil))) (pss_cons (ps_set (i := 2) sc_law.nd rfl (Or.inr rfl) (pe_op op_addM pe_int (pe_op op_modM (pe_call G_u_law_at (hr.mono (by decide)) rfl T.p_u_law_at.m T.p_u_law_at.F.kp T.p_u_law_at.b .nil pass0 (pa_cons (pv 1) (pa_cons pe_int pa_nil))) pe_int))) (pss_cons (ps_set (i := 3) sc_law.nd rfl (Or.inl rfl) (pe_op op_mulM (pe_call G_u_law_at (hr.mono (by decide)) rfl T.p_u_law_at.m T.p_u_law_at.F.kp T.p_u_law_at.b .nil pass0 (pa_cons (pv 1) (pa_cons pe_int pa_nil))) (pe_op op_addM pe_int (pe_op op_modM (pe_call G_u_law_at (hr.mono (by decide)) rfl T.p_u_law_at.m T.p_u_law_at.F.kp T.p_u_law_at.b .nil pass0 (pa_cons (pv 1) (pa_cons pe_int pa_nil))) pe_int)))) (pss_cons (ps_set (i := 4) sc_law.nd rfl (Or.inl rfl) (pe_op op_modM (pe_call G_u_law_at (hr.mono (by decide)) rfl T.p_u_law_at.m T.p_u_law_at.F.kp T.p_u_law_at.b .nil pass0 (pa_cons (pv 1) (pa_cons pe_int pa_nil))) pe_int)) (pss_cons (ps_set (i := 5) sc_law.nd rfl (Or.inl rfl) (pe_op op_modM (pe_call G_u_law_at (hr.mono (by decide)) rfl T.p_u_law_at.m T.p_u_law_at.F.kp T.p_u_law_at.b .nil pass0 (pa_cons (pv 1) (pa_cons pe_int pa_nil))) pe_int)) (pss_cons (ps_set (i := 6) sc_law.nd rfl (Or.inl rfl) (pe_cmpR op_eq (pe_op op_modM (pe_call G_u_law_at (hr.mono (by decide)) rfl T.p_u_law_at.m T.p_u_law_at.F.kp T.p_u_law_at.b .nil pass0 (pa_cons (pv 1) (pa_cons pe_int pa_nil))) pe_int) pe_int (nomark _))) (pss_cons (ps_setLcR1 (i := 7) rfl sc_law.nd rfl rfl (sw_true rfl rfl rfl (by decide +kernel)) rfl T.n_range (pa_cons (pe_op op_addM pe_int (pe_op op_modM (pe_call G_u_law_at (hr.mono (by decide)) rfl T.p_u_law_at.m T.p_u_law_at.F.kp T.p_u_law_at.b .nil pass0 (pa_cons (pv 1) (pa_cons pe_int pa_nil))) (pe_ix ix_listM (pe_lstM (pa_cons pe_int (pa_cons pe_int (pa_cons pe_int pa_nil)))) (pe_op op_modM (pv 4) pe_int) (fun _ _ => rfl)))) pa_nil) (blkOk_by (own := [("k", 11)]) (N := ["script", "tape", "bits", "number", "part", "offset", "poll", "body", "passed", "piece", "missing", "k", "rows", "status", "due", "bent", "kept", "told", "row"]) (sc := defScope S_law) (by decide +kernel)) (fun _ _ _ _ _ => (pg_name (i := 11) sc_law.nd rfl (Or.inl rfl))) (fun _ _ _ _ _ => (pe_op op_modM (pe_op op_addM (pe_op op_mulM (pe_call G_u_law_at (hr.mono (by decide)) rfl T.p_u_law_at.m T.p_u_law_at.F.kp T.p_u_law_at.b .nil pass0 (pa_cons (pv 1) (pa_cons pe_int pa_nil))) (pe_op op_addM (pv 11) pe_int)) (pv 11)) pe_int))) (pss_cons (ps_set (i := 8) sc_law.nd rfl (Or.inl rfl) (pe_callTy call_listM (by rfl) T.n_list (by decide +kernel) (pa_cons (pv 7) pa_nil))) (pss_cons (ps_set (i := 9) sc_law.nd rfl (Or.inl rfl) (pe_call G_data_piece (hr.mono (by decide)) rfl T.p_data_piece.m T.p_data_piece.F.kp T.p_data_piece.b .nil pass0 (pa_cons (pv 2) (pa_cons (pv 6) (pa_cons (pv 3) (pa_cons (pv 4) (pa_cons (pv 5) (pa_cons (pv 8) pa_nil)))))))) (pss_cons (ps_ifM (PW.pt (pw_orM (pt_cmpR (op_neDM hr.units) (pv 9) (pe_call G_u_law_data (hr.mono (by decide)) rfl T.p_u_law_data.m T.p_u_law_data.F.kp T.p_u_law_data.b .nil pass0 (pa_cons (pv 2) (pa_cons (pv 6) (pa_cons (pv 3) (pa_cons (pv 4) (pa_cons (pv 5) (pa_cons (pv 7) pa_nil))))))) (nomark _)) (pw_or1 (pt_cmpR (op_neDM hr.units) (pv 8) (pv 7) (nomark _))))) (pss_one (ps_ret pe_bl)) pss_nil) (pss_cons (ps_ifM (pt_cmpR (op_neDM hr.units) (pe_call G_read_piece (hr.mono (by decide)) rfl T.p_read_piece.m T.p_read_piece.F.kp T.p_read_piece.b .nil pass0 (pa_cons (pv 2) (pa_cons (pe_callTy call_listM (by rfl) T.n_list (by decide +kernel) (pa_cons (pv 9) pa_nil)) pa_nil))) (pe_tupM (pa_cons pe_str (pa_cons (pv 6) (pa_cons (pe_op op_modM (pe_callTy call_int1 (by rfl) T.n_int (by decide +kernel) (pa_cons (pv 3) pa_nil)) (pe_call G_u_law_two (hr.mono (by decide)) rfl T.p_u_law_two.m T.p_u_law_two.F.kp T.p_u_law_two.b .nil pass0 (pa_cons (pv 2) pa_nil))) (pa_cons (pv 4) (pa_cons (pe_op op_mulM (pv 5) (pe_callTy call_int1 (by rfl) T.n_int (by decide +kernel) (pa_cons (pe_cmpR op_gtM (pv 4) pe_int (nomark _)) pa_nil))) (pa_cons (pv 7) pa_nil))))))) (nomark _)) (pss_one (ps_ret pe_bl)) pss_nil) (pss_cons (ps_set (i := 10) sc_law.nd rfl (Or.inl rfl) (pe_lstM pa_nil)) (pss_cons (ps_forR1 PassesOwn.never rfl rfl T.n_range (pa_cons (pe_op op_modM (pe_call G_u_law_at (hr.mono (by decide)) rfl T.p_u_law_at.m T.p_u_law_at.F.kp T.p_u_law_at.b .nil pass0 (pa_cons (pv 1) (pa_cons pe_int pa_nil))) pe_int) pa_nil) (pg_name (i := 11) sc_law.nd rfl (Or.inl rfl)) (pss_one (ps_expr (pe_app (pv 10) (pe_tupM (pa_cons (pe_op op_addM (pv 3) (pe_call G_u_law_at (hr.mono (by decide)) rfl T.p_u_law_at.m T.p_u_law_at.F.kp T.p_u_law_at.b .nil pass0 (pa_cons (pv 1) (pa_cons (pe_op op_addM pe_int (pe_op op_mulM pe_int (pv 11))) pa_nil)))) (pa_cons (pe_op op_modM (pe_call G_u_law_at (hr.mono (by decide)) rfl T.p_u_law_at.m T.p_u_law_at.F.kp T.p_u_law_at.b .nil pass0 (pa_cons (pv 1) (pa_cons (pe_op op_addM pe_int (pe_op op_mulM pe_int (pv 11))) pa_nil))) pe_int) (pa_cons (pe_op op_modM (pe_call G_u_law_at (hr.mono (by decide)) rfl T.p_u_law_at.m T.p_u_law_at.F.kp T.p_u_law_at.b .nil pass0 (pa_cons (pv 1) (pa_cons (pe_op op_addM pe_int (pe_op op_mulM pe_int (pv 11))) pa_nil))) pe_int) pa_nil)))))))) (pss_cons (ps_set (i := 12) sc_law.nd rfl (Or.inl rfl) (pe_callTy call_listM (by rfl) T.n_list (by decide +kernel) (pa_cons (pv 10) pa_nil))) (pss_cons (ps_set (i := 13) sc_law.nd rfl (Or.inl rfl) (pe_call G_status_piece (hr.mono (by decide)) rfl T.p_status_piece.m T.p_status_piece.F.kp T.p_status_piece.b .nil passL (pa_cons (pv 2) (pa_cons (pv 3) (pa_cons (pv 12) pa_nil))))) (pss_cons (ps_ifM (PW.pt (pw_orM (pt_cmpR (op_neDM hr.units) (pv 13) (pe_call G_u_law_status (hr.mono (by decide)) rfl T.p_u_law_status.m T.p_u_law_status.F.kp T.p_u_law_status.b .nil pass0 (pa_cons (pv 2) (pa_cons (pv 3) (pa_cons (pv 10) pa_nil)))) (nomark _)) (pw_orM (pt_cmpR (op_neDM hr.units) (pv 12) (pv 10) (nomark _)) (pw_or1 (pt_cmpR op_ne (pe_callB call_lenM (by rfl) T.n_len PySem.boot_len (pa_cons (pv 13) pa_nil)) (pe_call G_status_bytes (hr.mono (by decide)) rfl T.p_status_bytes.m T.p_status_bytes.F.kp T.p_status_bytes.b .nil pass0 (pa_cons (pv 2) (pa_cons (pe_callB call_lenM (by rfl) T.n_len PySem.boot_len (pa_cons (pv 10) pa_nil)) pa_nil))) (nomark _)))))) (pss_one (ps_ret pe_bl)) pss_nil) (pss_cons (ps_setLcTL (i := 14) rfl sc_law.nd rfl rfl (sw_true rfl rfl rfl (by decide +kernel)) (pv 10) (blkOk_by (own := [("row", 18)]) (N := ["script", "tape", "bits", "number", "part", "offset", "poll", "body", "passed", "piece", "missing", "k", "rows", "status", "due", "bent", "kept", "told", "row"]) (sc := defScope S_law) (by decide +kernel)) (fun _ _ _ _ _ => (pg_name (i := 18) sc_law.nd rfl (Or.inl rfl))) (fun _ _ _ _ _ => (pe_tupM (pa_cons (pe_op op_modM (pe_callTy call_int1 (by rfl) T.n_int (by decide +kernel) (pa_cons (pe_ix (ix_tupK (K := K) rfl) (pv 18) pe_int (fun _ _ => rfl)) pa_nil)) (pe_call G_u_law_two (hr.mono (by decide)) rfl T.p_u_law_two.m T.p_u_law_two.F.kp T.p_u_law_two.b .nil pass0 (pa_cons (pv 2) pa_nil))) (pa_cons (pe_ix (ix_tupK (K := K) rfl) (pv 18) pe_int (fun _ _ => rfl)) (pa_cons (pe_ix (ix_tupK (K := K) rfl) (pv 18) pe_int (fun _ _ => rfl)) pa_nil)))))) (pss_cons (ps_ifM (pt_cmpR (op_neDM hr.units) (pe_call G_read_piece (hr.mono (by decide)) rfl T.p_read_piece.m T.p_read_piece.F.kp T.p_read_piece.b .nil pass0 (pa_cons (pv 2) (pa_cons (pe_callTy call_listM (by rfl) T.n_list (by decide +kernel) (pa_cons (pv 13) pa_nil)) pa_nil))) (pe_tupM (pa_cons pe_str (pa_cons (pe_op op_modM (pe_callTy call_int1 (by rfl) T.n_int (by decide +kernel) (pa_cons (pv 3) pa_nil)) (pe_call G_u_law_two (hr.mono (by decide)) rfl T.p_u_law_two.m T.p_u_law_two.F.kp T.p_u_law_two.b .nil pass0 (pa_cons (pv 2) pa_nil))) (pa_cons (pv 14) pa_nil)))) (nomark _)) (pss_one (ps_ret pe_bl)) pss_nil) (pss_cons (ps_ifM (pt_not (pt_val (pe_call G_u_law_refused (hr.mono (by decide)) rfl T.p_u_law_refused.m T.p_u_law_refused.F.kp T.p_u_law_refused.b .nil pass0 (pa_cons (pv 2) (pa_cons (pe_op op_repM (pe_lstM (pa_cons (pe_tupM (pa_cons pe_int (pa_cons pe_int (pa_cons pe_int pa_nil)))) pa_nil)) pe_int) pa_nil))))) (pss_one (ps_ret pe_bl)) pss_nil) (pss_cons (ps_forL PassesOwn.never rfl (pe_lstM (pa_cons (pe_call G_u_law_bent (hr.mono (by decide)) rfl T.p_u_law_bent.m T.p_u_law_bent.F.kp T.p_u_law_bent.b .nil pass0 (pa_cons (pv 1) (pa_cons (pv 9) (pa_cons pe_int pa_nil)))) (pa_cons (pe_call G_u_law_bent (hr.mono (by decide)) rfl T.p_u_law_bent.m T.p_u_law_bent.F.kp T.p_u_law_bent.b .nil pass0 (pa_cons (pv 1) (pa_cons (pv 13) (pa_cons pe_int pa_nil)))) pa_nil))) (pg_name (i := 15) sc_law.nd rfl (Or.inl rfl)) (pss_cons (ps_set (i := 16) sc_law.nd rfl (Or.inl rfl) (pe_callTy call_listM (by rfl) T.n_list (by decide +kernel) (pa_cons (pv 15) pa_nil))) (pss_cons (ps_set (i := 17) sc_law.nd rfl (Or.inl rfl) (pe_call G_read_piece (hr.mono (by decide)) rfl T.p_read_piece.m T.p_read_piece.F.kp T.p_read_piece.b .nil pass0 (pa_cons (pv 2) (pa_cons (pv 15) pa_nil)))) (pss_cons (ps_ifM (PW.pt (pw_orM (pt_cmpR (op_neDM hr.units) (pv 17) (pe_call G_u_law_read (hr.mono (by decide)) rfl T.p_u_law_read.m T.p_u_law_read.F.kp T.p_u_law_read.b .nil pass0 (pa_cons (pv 2) (pa_cons (pv 16) pa_nil))) (nomark _)) (pw_or1 (pt_cmpR (op_neDM hr.units) (pv 15) (pv 16) (nomark _))))) (pss_one (ps_ret pe_bl)) pss_nil) (pss_one (ps_ifM (PW.pt (pw_andM (pt_cmpR op_notN (pv 17) pe_non (nomark _)) (pw_andM (pt_cmpR op_eq (pe_ix ix_tupM (pv 17) pe_int (fun _ _ => rfl)) pe_str (nomark _)) (pw_and1 (PW.pt (pw_orM (pt_not (pt_val (pe_callB call_isiM (by rfl) T.n_isinstance (by decide +kernel) (pa_cons (pe_ix ix_tupM (pv 17) pe_int (fun _ _ => rfl)) (pa_cons (pe_bltn (v := .ty "bool") rfl T.n_bool (by decide +kernel) rfl) pa_nil))))) (pw_or1 (pt_not (pt_val (pe_callB call_isiM (by rfl) T.n_isinstance (by decide +kernel) (pa_cons (pe_ix ix_tupM (pv 17) pe_int (fun _ _ => rfl)) (pa_cons (pe_bltn (v := .ty "list") rfl T.n_list (by decide +kernel) rfl) pa_nil)))))))))))) (pss_one (ps_ret pe_bl)) pss_nil)))))) (pss_one (ps_ret pe_bl))))))))))))))))))))))), ?_⟩
    (repeat walk_at "rd")
    refine br_ni rfl ?_
    (repeat walk_at "rd")
    refine br_ni rfl ?_
    (repeat walk_at "rd")
    refine op_u_law_tape ⟨a, ns, rfl, hS, hlen, fun ts hts tp H1 n1 s1 e1 => ?_⟩
    have hT1 : SqL K H1 tp (ts.map V.int) := sq_of e1
    (repeat walk_at "rd")
    refine op_u_law_at ⟨tp, ts, _, rfl, hT1, hts, by decide, fun x0 a0 b0 _ => ?_⟩
    (repeat walk_at "rd")
    refine op_u_law_at ⟨tp, ts, _, rfl, hT1, hts, by decide, fun x1 a1 b1 _ => ?_⟩
    (repeat walk_at "rd")
    refine op_u_law_at ⟨tp, ts, _, rfl, hT1, hts, by decide, fun x2 a2 b2 _ => ?_⟩
    (repeat walk_at "rd")
    refine op_u_law_at ⟨tp, ts, _, rfl, hT1, hts, by decide, fun x3 a3 b3 _ => ?_⟩
    (repeat walk_at "rd")
    refine op_u_law_at ⟨tp, ts, _, rfl, hT1, hts, by decide, fun x4 a4 b4 _ => ?_⟩
    (repeat walk_at "rd")
    refine op_u_law_at ⟨tp, ts, _, rfl, hT1, hts, by decide, fun x5 a5 b5 _ => ?_⟩
    have hbits : 1 ≤ 3 + x0 % 4 ∧ 3 + x0 % 4 ≤ 29 := by omega
    have hpart : 0 ≤ x3 % 4 ∧ x3 % 4 < 4 := by omega
    have hoff : 0 ≤ x4 % 200 ∧ x4 % 200 < 256 := by omega
    generalize 3 + x0 % 4 = bits at hbits
    generalize x3 % 4 = part at hpart
    generalize x4 % 200 = off at hoff
    generalize x1 * (1 + x2 % 50) = number
    (repeat walk_at "rd")
    refine rd_lcR1 ?_
    (repeat walk_at "rd")
    refine op_u_law_at ⟨tp, ts, _, rfl, hT1, hts, by decide, fun x7 a7 b7 _ => ?_⟩
    (repeat walk_at "rd")
    intro t2 H2 n2 s2 e2
    (repeat walk_at "rd")
    have ht : ∃ z : Int, atI [V.int 5, V.int 30, V.int 200] (part % 3) = some (.int z) ∧ 1 ≤ z ∧ z ≤ 200 := by
      have h3 : part % 3 = 0 ∨ part % 3 = 1 ∨ part % 3 = 2 := by omega
      rcases h3 with e | e | e <;> rw [e]
      · exact ⟨_, rfl, by decide, by decide⟩
      · exact ⟨_, rfl, by decide, by decide⟩
      · exact ⟨_, rfl, by decide, by decide⟩
    obtain ⟨z, hz, hz1, hz2⟩ := ht
    refine rd_ixL (sq_of e2) hz ?_
    (repeat walk_at "rd")
    have hsz : 0 ≤ x7 % z ∧ x7 % z < z := ⟨Int.emod_nonneg _ (by omega), Int.emod_lt_of_pos _ (by omega)⟩
    have hT2 := s2.seq hT1
    refine ⟨1 + x7 % z, fun i => .int ((ts.getD 6 0 * ((i : Int) + 1) + i) % 256), rfl, ⟨by omega, by omega⟩, fun i hi H' s' => ?_, fun pp H3 n3 s3 e3 => ?_⟩
    · (repeat walk_at "rd")
      refine op_u_law_at ⟨tp, ts, _, rfl, s'.seq hT2, hts, by decide, fun x a b ex => ?_⟩
      (repeat walk_at "rd")
      refine ⟨?_, Same.refl _⟩
      rw [ex]
      rfl
    have hds : ∃ ds : List Int, (List.range (1 + x7 % z).toNat).map (fun (i : Nat) => V.int ((ts.getD 6 0 * ((i : Int) + 1) + i) % 256)) = ds.map V.int ∧ (1 ≤ ds.length ∧ ds.length ≤ 200) ∧ ∀ d ∈ ds, 0 ≤ d ∧ d < 256 := by
      refine ⟨(List.range (1 + x7 % z).toNat).map (fun (i : Nat) => (ts.getD 6 0 * ((i : Int) + 1) + i) % 256), by rw [List.map_map]; rfl, by rw [List.length_map, List.length_range]; omega, fun w hw => ?_⟩
      obtain ⟨k, _, rfl⟩ := List.mem_map.mp hw
      omega
    obtain ⟨ds, eds, hdl, hd⟩ := hds
    rw [eds] at e3
    clear eds
    (repeat walk_at "rd")
    refine rd_list (sq_of e3) fun kp H4 n4 s4 e4 => ?_
    have s14 : Same H1 H4 := (s2.trans s3).trans s4
    have hT : SqL K H4 tp (ts.map V.int) := s14.seq hT1
    have hP : H4 pp = some (.lst (ds.map V.int)) := s4 _ _ e3
    generalize decide (V.int (x5 % 2) = V.int 1) = poll
    (repeat walk_at "rd")
    refine op_data_piece ⟨bits, poll, number, part, off, kp, ds, rfl, ⟨by omega, by omega⟩, hpart, hoff, e4, by omega, fun cp H5 n5 s5 e5 => ?_⟩
    (repeat walk_at "rd")
    refine op_u_law_data ⟨bits, poll, number, part, off, pp, ds, rfl, hbits, hpart, hoff, s5 _ _ hP, by omega, fun cp2 H6 n6 s6 e6 => ?_⟩
    refine rd_neS _ (dp_ints (sq_of (s6 _ _ e5))) (dp_ints (sq_of e6)) (sh_lst (sh_ints (n := 0) _)) ?_
    (repeat walk_at "rd")
    have s46 : Same H4 H6 := s5.trans s6
    refine rd_neS _ (dp_ints (sq_of (s46 _ _ e4))) (dp_ints (sq_of (s46 _ _ hP))) (sh_lst (sh_ints (n := 0) _)) ?_
    (repeat walk_at "rd")
    refine rd_list (sq_of (s6 _ _ e5)) fun rp H7 n7 s7 e7 => ?_
    have s47 : Same H4 H7 := s46.trans s7
    have hdb : ∀ d ∈ dataF bits poll number part off ds, 0 ≤ d ∧ d < 256 := fun d h => by
      unfold dataF at h
      rcases List.mem_append.mp h with h | h
      · exact packF_byte h
      · exact hd d h
    have hdl2 : 1 ≤ (dataF bits poll number part off ds).length ∧ (dataF bits poll number part off ds).length ≤ 1000 := by
      unfold dataF
      rw [List.length_append]
      have h1 := packF_length (vs := dataVals poll (number % 2 ^ bits.toNat) part off) (dataW_wok (part := part) hbits.1)
      have h2 := size_data (bits := bits) (part := part) hbits.1 (by omega)
      omega
    (repeat walk_at "rd")
    refine op_read_piece ⟨bits, rp, _, rfl, ⟨by omega, by omega⟩, sq_of e7, hdb, by omega, fun v H8 s8 hv => ?_⟩
    rw [read_data hbits.1 hpart hoff hd (by intro e; rw [e] at hdl; simp at hdl)] at hv
    (repeat walk_at "rd")
    refine op_u_law_two ⟨bits, rfl, by omega, by omega, ?_⟩
    (repeat walk_at "rd")
    refine ⟨pow_nn _, ?_⟩
    (repeat walk_at "rd")
    intro t9 H9 n9 s9 e9
    have e9' : H9 t9 = some (.tup [.str "data", .bl poll, .int (number % 2 ^ bits.toNat), .int part, .int (if hasOff part = true then off else 0), .ref pp]) := by
      rw [e9, hasOff_gt hpart.1 hpart.2]
      by_cases h : 1 < part <;> simp [h]
    have s49 : Same H4 H9 := (s47.trans s8).trans s9
    refine rd_neS _ (hv.mono s9).dp (PartsAt.dp (r := some (.data poll (number % 2 ^ bits.toNat) part (if hasOff part = true then off else 0) ds)) ⟨t9, pp, rfl, e9', s49 _ _ hP⟩) (sh_parts _) ?_
    (repeat walk_at "rd")
    intro D H10 n10 s10 e10
    have hT10 := (s49.trans s10).seq hT
    (repeat walk_at "rd")
    refine cpS (σ' := [_, _, _, _, _, _, _, _, _, _, _, _, _, _, _, _, _, _, _]) rfl ?_
    refine rd_forR1 ?_
    (repeat walk_at "rd")
    refine op_u_law_at ⟨tp, ts, _, rfl, hT10, hts, by decide, fun x8 a8 b8 _ => ?_⟩
    (repeat walk_at "rd")
    refine ⟨x8 % 9, fun i σ H' => Stop (Same H9 H' ∧ (∃ ms, ms.length = i ∧ RowsOk ms ∧ RowsAt H' D ms) ∧ ∃ k', σ = [some (.ref a), some (.ref tp), some (.int bits), some (.int number), some (.int part), some (.int off), some (.bl poll), some (.ref pp), some (.ref kp), some (.ref cp), some (.ref D), k', none, none, none, none, none, none, none]), rfl, ⟨by omega, by omega⟩, .a ⟨s10, ⟨[], rfl, (fun r h => by cases h), RowsAt.empty e10⟩, _, rfl⟩, fun i σ' H' hi p => ?_, fun σ' H' p => ?_⟩
    · obtain ⟨sm, ⟨ms, hml, hok, hr⟩, k', rfl⟩ := p.un
      have hTi : SqL K H' tp (ts.map V.int) := (s49.trans sm).seq hT
      obtain ⟨ps0, hps0, _, _⟩ := hr.ex
      (repeat walk_at "rd")
      refine op_u_law_at ⟨tp, ts, _, rfl, hTi, hts, by omega, fun y1 c1 d1 _ => ?_⟩
      (repeat walk_at "rd")
      refine op_u_law_at ⟨tp, ts, _, rfl, hTi, hts, by omega, fun y2 c2 d2 _ => ?_⟩
      (repeat walk_at "rd")
      refine op_u_law_at ⟨tp, ts, _, rfl, hTi, hts, by omega, fun y3 c3 d3 _ => ?_⟩
      (repeat walk_at "rd")
      intro t H11 n11 s11 e11
      obtain ⟨xs, ex, hxl, rows2⟩ := hr.grow (r := (number + y1, y2 % 256, y3 % 256)) s11 n11 e11
      (repeat walk_at "rd")
      refine rd_app ex (by omega) ?_
      exact .a ⟨same_mut (sm.trans s11) n10, ⟨_, by rw [List.length_append, hml]; rfl, fun r h => by
        rcases List.mem_append.mp h with h | h
        · exact hok r h
        · rw [List.mem_singleton.mp h]
          exact ⟨⟨by show 0 ≤ y2 % 256; omega, by show y2 % 256 < 256; omega⟩, ⟨by show 0 ≤ y3 % 256; omega, by show y3 % 256 < 256; omega⟩⟩, rows2⟩, _, rfl⟩
    obtain ⟨sm, ⟨ms, hml, hok, hr⟩, k', rfl⟩ := p.un
    have hm8 : ms.length ≤ 8 := by omega
    obtain ⟨ps, hps, hpl, hpt⟩ := hr.ex
    (repeat walk_at "rd")
    refine rd_list (sq_of hps) fun rw' H11 n11 s11 e11 => ?_
    have hrow : RowsAt H11 rw' ms := ⟨ps, e11, hpl, fun i p r a b => s11 _ _ (hpt i p r a b)⟩
    (repeat walk_at "rd")
    refine op_status_piece ⟨bits, number, rw', ms, rfl, ⟨by omega, by omega⟩, hrow, hok, fun _ st H12 n12 s12 e12 => ?_, fun h => absurd h (by omega)⟩
    (repeat walk_at "rd")
    refine op_u_law_status ⟨bits, number, D, ms, rfl, hbits, (hr.mono s11).mono s12, hok, hm8, fun st2 H13 n13 s13 e13 => ?_⟩
    refine rd_neS _ (dp_ints (sq_of (s13 _ _ e12))) (dp_ints (sq_of e13)) (sh_lst (sh_ints (n := 0) _)) ?_
    (repeat walk_at "rd")
    refine rd_neS _ (hrow.mono (s12.trans s13)).dp (hr.mono (s11.trans (s12.trans s13))).dp (sh_rows _) ?_
    have hD13 : H13 D = some (.lst (ps.map V.ref)) := s13 _ _ (s12 _ _ (s11 _ _ hps))
    (repeat walk_at "rd")
    refine rd_len (sq_of hD13) ?_
    (repeat walk_at "rd")
    refine op_status_bytes ⟨bits, (((ps.map V.ref).length : Nat) : Int), rfl, ⟨by omega, by omega⟩, ⟨by omega, by rw [List.length_map, hpl]; omega⟩, fun H14 s14' => ?_⟩
    (repeat walk_at "rd")
    have hlen14 : ((statusF bits number ms).length : Int) = statusBytes bits ((ps.map V.ref).length : Nat) := by
      rw [List.length_map, hpl, ← size_status]
      exact packF_length (vs := statusVals bits number ms) (statusW_wok hbits.1)
    refine br_ni hlen14 ?_
    have s11_14 : Same H11 H14 := (s12.trans s13).trans s14'
    have hst14 : H14 st = some (.lst ((statusF bits number ms).map V.int)) := s14' _ _ (s13 _ _ e12)
    have hr14 : RowsAt H14 D ms := hr.mono (s11.trans s11_14)
    have h9_14 : Same H9 H14 := (sm.trans s11).trans s11_14
    clear hr hps hpt hrow
    obtain ⟨ps, hps, hpl, hpt⟩ := hr14.ex
    (repeat walk_at "rd")
    have hseq : SqL K H14 D (ps.map V.ref) := sq_of hps
    refine rd_lcTL ?_
    (repeat walk_at "rd")
    refine ⟨D, ps.map V.ref, fun i => rowV (dueR bits (ms.getD i (0, 0, 0))), rfl, hseq, by rw [List.length_map, hpl]; omega, fun i y hi H' s' => ?_, fun Dd H15 qs n15 s15 e15 hql hqt => ?_⟩
    · rw [List.getElem?_map] at hi
      cases hp : ps[i]? with
      | none => rw [hp] at hi; cases hi
      | some pq =>
        rw [hp] at hi
        cases hi
        have hil := (List.getElem?_eq_some_iff.mp hp).1
        have hmi : ms[i]? = some ms[i] := List.getElem?_eq_getElem (by omega)
        have hrt := s' _ _ (hpt i pq ms[i] hp hmi)
        have hgd : ms.getD i (0, 0, 0) = ms[i] := by rw [List.getD_eq_getElem?_getD, hmi]; rfl
        (repeat walk_at "rd")
        refine rd_ixT (st_of hrt) rfl ?_
        (repeat walk_at "rd")
        refine op_u_law_two ⟨bits, rfl, by omega, by omega, ?_⟩
        (repeat walk_at "rd")
        refine ⟨pow_nn _, ?_⟩
        (repeat walk_at "rd")
        refine rd_ixT (st_of hrt) rfl ?_
        (repeat walk_at "rd")
        refine rd_ixT (st_of hrt) rfl ?_
        (repeat walk_at "rd")
        intro t H2' n2' s2' e2'
        exact ⟨s2', t, rfl, by
          rw [e2']
          show _ = some (HO.tup (rowV (dueR bits (ms.getD i (0, 0, 0)))))
          rw [hgd]
          rfl⟩
    have hdue : RowsAt H15 Dd (ms.map (dueR bits)) := ⟨qs, e15, by rw [List.length_map, hql, List.length_map, hpl], fun i p r a b => by
      rw [hqt i p a]
      rw [List.getElem?_map] at b
      cases c : ms[i]? with
      | none => rw [c] at b; cases b
      | some m =>
        rw [c] at b
        cases b
        show some (HO.tup (rowV (dueR bits (ms.getD i (0, 0, 0))))) = _
        rw [List.getD_eq_getElem?_getD, c]
        rfl⟩
    (repeat walk_at "rd")
    refine rd_list (sq_of (s15 _ _ hst14)) fun rp2 H16 n16 s16 e16 => ?_
    have hsl := packF_length (vs := statusVals bits number ms) (statusW_wok (n := ms.length) hbits.1)
    have hsb : ∀ d ∈ statusF bits number ms, 0 ≤ d ∧ d < 256 := fun d h => packF_byte h
    have hsl2 : 1 ≤ (statusF bits number ms).length ∧ (statusF bits number ms).length ≤ 1000 := by
      have e : ((statusF bits number ms).length : Int) = sizeF (statusW bits ms.length) := hsl
      rw [size_status] at e
      have h1 : (ms.length : Int) * (bits + 16) ≤ 8 * 45 := Int.mul_le_mul (by omega) (by omega) (by omega) (by omega)
      have h2 : 0 ≤ (ms.length : Int) * (bits + 16) := Int.mul_nonneg (by omega) (by omega)
      unfold statusBytes at e
      omega
    (repeat walk_at "rd")
    refine op_read_piece ⟨bits, rp2, _, rfl, ⟨by omega, by omega⟩, sq_of e16, hsb, by omega, fun v2 H17 s17 hv2 => ?_⟩
    rw [read_status hbits.1 hok hm8 (size_status _ _) (statusW_wok hbits.1)] at hv2
    (repeat walk_at "rd")
    refine op_u_law_two ⟨bits, rfl, by omega, by omega, ?_⟩
    (repeat walk_at "rd")
    refine ⟨pow_nn _, ?_⟩
    (repeat walk_at "rd")
    intro t18 H18 n18 s18 e18
    have s15_18 : Same H15 H18 := (s16.trans s17).trans s18
    refine rd_neS _ (hv2.mono s18).dp (PartsAt.dp (r := some (.status (number % 2 ^ bits.toNat) (ms.map (dueR bits)))) ⟨t18, Dd, rfl, e18, hdue.mono s15_18⟩) (sh_parts _) ?_
    (repeat walk_at "rd")
    intro t19 H19 n19 s19 e19
    (repeat walk_at "rd")
    intro l20 H20 n20 s20 e20
    refine rd_rep e20 (by decide) (by decide) (by exact Nat.le_of_ble_eq_true rfl) fun l21 H21 n21 s21 e21 => ?_
    have hr9 : RowsAt H21 l21 (List.replicate 9 (1, 0, 255)) := ⟨List.replicate 9 t19, e21, rfl, fun i p r a b => by
      rw [List.eq_of_mem_replicate (List.mem_of_getElem? a), List.eq_of_mem_replicate (List.mem_of_getElem? b)]
      exact s21 _ _ (s20 _ _ e19)⟩
    (repeat walk_at "rd")
    refine op_u_law_refused ⟨bits, l21, _, rfl, hbits, hr9, fun r h => by rw [List.eq_of_mem_replicate h]; decide, by decide, fun H22 s22 => ?_⟩
    have s14_22 : Same H14 H22 := (((((s15.trans s15_18).trans s19).trans s20).trans s21).trans s22)
    (repeat walk_at "rd")
    have hT22 : SqL K H22 tp (ts.map V.int) := ((s49.trans h9_14).trans s14_22).seq hT
    have hcp22 : H22 cp = some (.lst ((dataF bits poll number part off ds).map V.int)) := s14_22 _ _ (h9_14 _ _ (s9 _ _ (s8 _ _ (s7 _ _ (s6 _ _ e5)))))
    have hst22 := s14_22 _ _ hst14
    refine cpS (σ' := [_, _, _, _, _, _, _, _, _, _, _, _, _, _, _, _, _, _, _]) rfl ?_
    refine rd_forL ?_
    (repeat walk_at "rd")
    refine op_u_law_bent ⟨tp, ts, cp, _, 36, rfl, hT22, hts, sq_of hcp22, hdb, hdl2, by decide, fun es1 hb1 hl1 p1 H23 n23 s23 e23 => ?_⟩
    (repeat walk_at "rd")
    refine op_u_law_bent ⟨tp, ts, st, _, 40, rfl, s23.seq hT22, hts, sq_of (s23 _ _ hst22), hsb, hsl2, by decide, fun es2 hb2 hl2 p2 H24 n24 s24 e24 => ?_⟩
    (repeat walk_at "rd")
    intro L H25 n25 s25 e25
    refine ⟨L, [.ref p1, .ref p2], fun i σ H' => Stop (Same H25 H' ∧ ∃ y1 y2 y3, σ = [some (.ref a), some (.ref tp), some (.int bits), some (.int number), some (.int part), some (.int off), some (.bl poll), some (.ref pp), some (.ref kp), some (.ref cp), some (.ref D), k', some (.ref rw'), some (.ref st), some (.ref Dd), y1, y2, y3, none]), rfl, sq_of e25, .a ⟨Same.refl _, _, _, _, rfl⟩, fun i σ' H' hi p => ?_, fun i y σ' H' hi p => ?_, fun σ' H' p => ?_⟩
    · obtain ⟨sm, _⟩ := p.un
      exact sm.seq (sq_of e25)
    · obtain ⟨sm, y1, y2, y3, rfl⟩ := p.un
      have hy : ∃ (p : Addr) (es : List Int), y = .ref p ∧ H25 p = some (.lst (es.map V.int)) ∧ (∀ d ∈ es, 0 ≤ d ∧ d < 256) ∧ es.length ≤ 2000 := by
        match i, hi with
        | 0, hi => cases hi; exact ⟨p1, es1, rfl, s25 _ _ (s24 _ _ e23), hb1, hl1⟩
        | 1, hi => cases hi; exact ⟨p2, es2, rfl, s25 _ _ e24, hb2, hl2⟩
      obtain ⟨p, es, rfl, hp, hb, hl⟩ := hy
      have hp' := sm _ _ hp
      (repeat walk_at "rd")
      refine rd_list (sq_of hp') fun kq H26 n26 s26 e26 => ?_
      (repeat walk_at "rd")
      refine op_read_piece ⟨bits, p, es, rfl, ⟨by omega, by omega⟩, sq_of (s26 _ _ hp'), hb, by omega, fun v H27 s27 hv => ?_⟩
      (repeat walk_at "rd")
      refine op_u_law_read ⟨bits, kq, es, rfl, hbits, sq_of (s27 _ _ e26), hb, by omega, fun v' H28 s28 hv' => ?_⟩
      rw [← law_read_eq hbits.1 hb (fun n _ => size_status bits n)] at hv'
      refine rd_neS _ (hv.mono s28).dp hv'.dp (sh_parts _) ?_
      (repeat walk_at "rd")
      refine rd_neS _ (dp_ints (sq_of (s28 _ _ (s27 _ _ (s26 _ _ hp'))))) (dp_ints (sq_of (s28 _ _ (s27 _ _ e26)))) (sh_lst (sh_ints (n := 0) _)) ?_
      have hv3 := hv.mono s28
      have s29 : Same H25 H28 := ((sm.trans s26).trans s27).trans s28
      clear hv hv'
      generalize readF bits es = r at hv3
      match r, hv3 with
      | none, hv3 =>
        have e : v = .non := hv3
        subst e
        (repeat walk_at "rd")
        refine br_nf rfl ?_
        (repeat walk_at "rd")
        exact .a ⟨s29, _, _, _, rfl⟩
      | some (.data poll' n' part' off' body'), hv3 =>
        obtain ⟨q1, q2, e, h1, h2⟩ := hv3
        subst e
        (repeat walk_at "rd")
        refine br_nt (fun e => by cases e) ?_
        (repeat walk_at "rd")
        refine rd_ixT (st_of h1) rfl ?_
        (repeat walk_at "rd")
        refine br_t rfl ?_
        (repeat walk_at "rd")
        refine rd_ixT (st_of h1) rfl ?_
        (repeat walk_at "rd")
        refine rd_isiBB ?_
        (repeat walk_at "rd")
        refine rd_ixT (st_of h1) rfl ?_
        (repeat walk_at "rd")
        refine rd_isiLL h2 ?_
        (repeat walk_at "rd")
        exact .a ⟨s29, _, _, _, rfl⟩
      | some (.status upto' ms'), hv3 =>
        obtain ⟨q1, q2, e, h1, h2⟩ := hv3
        subst e
        (repeat walk_at "rd")
        refine br_nt (fun e => by cases e) ?_
        (repeat walk_at "rd")
        refine rd_ixT (st_of h1) rfl ?_
        (repeat walk_at "rd")
        refine br_f (by decide) ?_
        (repeat walk_at "rd")
        exact .a ⟨s29, _, _, _, rfl⟩
    · obtain ⟨sm, y1, y2, y3, rfl⟩ := p.un
      (repeat walk_at "rd")
      exact q _
end
end My
namespace My
open PySem L2
theorem all_mk {P : Program} {w : World} {K : PySem.W.Frag} {h : Heap} {mg : Str → Option Value} {fa : Addr} (X : K.In h) (G : h.Ns mainGlobals mg) (hfa : mg "law" = some (.ref fa))
    {tk_MOST_BYTES : Tok}
    {tk_MOST_MISSING : Tok}
    {tk_DATA : Tok}
    {tk_STATUS : Tok}
    {tk_WHOLE : Tok}
    {tk_END : Tok}
    {tk_WITHIN : Tok}
    {C_BearerError : Addr}
    {C_NotValid : Addr}
    {f_BearerError___init : Addr} {od_BearerError___init an_BearerError___init : Option Addr} {sl_BearerError___init : Array (Option Value)} {oc_BearerError___init kV_BearerError___init dc_BearerError___init pm_BearerError___init cd_BearerError___init ct_BearerError___init : Value}
    {f_field_bytes : Addr} {od_field_bytes an_field_bytes : Option Addr} {sl_field_bytes : Array (Option Value)} {oc_field_bytes kV_field_bytes dc_field_bytes pm_field_bytes cd_field_bytes ct_field_bytes : Value}
    {f_pack : Addr} {od_pack an_pack : Option Addr} {sl_pack : Array (Option Value)} {oc_pack kV_pack dc_pack pm_pack cd_pack ct_pack : Value}
    {f_unpack : Addr} {od_unpack an_unpack : Option Addr} {sl_unpack : Array (Option Value)} {oc_unpack kV_unpack dc_unpack pm_unpack cd_unpack ct_unpack : Value}
    {f_short : Addr} {od_short an_short : Option Addr} {sl_short : Array (Option Value)} {oc_short kV_short dc_short pm_short cd_short ct_short : Value}
    {f_u_has_offset : Addr} {od_u_has_offset an_u_has_offset : Option Addr} {sl_u_has_offset : Array (Option Value)} {oc_u_has_offset kV_u_has_offset dc_u_has_offset pm_u_has_offset cd_u_has_offset ct_u_has_offset : Value}
    {f_u_data_widths : Addr} {od_u_data_widths an_u_data_widths : Option Addr} {sl_u_data_widths : Array (Option Value)} {oc_u_data_widths kV_u_data_widths dc_u_data_widths pm_u_data_widths cd_u_data_widths ct_u_data_widths : Value}
    {f_u_status_head : Addr} {od_u_status_head an_u_status_head : Option Addr} {sl_u_status_head : Array (Option Value)} {oc_u_status_head kV_u_status_head dc_u_status_head pm_u_status_head cd_u_status_head ct_u_status_head : Value}
    {f_u_range_widths : Addr} {od_u_range_widths an_u_range_widths : Option Addr} {sl_u_range_widths : Array (Option Value)} {oc_u_range_widths kV_u_range_widths dc_u_range_widths pm_u_range_widths cd_u_range_widths ct_u_range_widths : Value}
    {f_data_piece : Addr} {od_data_piece an_data_piece : Option Addr} {sl_data_piece : Array (Option Value)} {oc_data_piece kV_data_piece dc_data_piece pm_data_piece cd_data_piece ct_data_piece : Value}
    {f_status_piece : Addr} {od_status_piece an_status_piece : Option Addr} {sl_status_piece : Array (Option Value)} {oc_status_piece kV_status_piece dc_status_piece pm_status_piece cd_status_piece ct_status_piece : Value}
    {f_status_bytes : Addr} {od_status_bytes an_status_bytes : Option Addr} {sl_status_bytes : Array (Option Value)} {oc_status_bytes kV_status_bytes dc_status_bytes pm_status_bytes cd_status_bytes ct_status_bytes : Value}
    {f_u_read_data : Addr} {od_u_read_data an_u_read_data : Option Addr} {sl_u_read_data : Array (Option Value)} {oc_u_read_data kV_u_read_data dc_u_read_data pm_u_read_data cd_u_read_data ct_u_read_data : Value}
    {f_u_read_status : Addr} {od_u_read_status an_u_read_status : Option Addr} {sl_u_read_status : Array (Option Value)} {oc_u_read_status kV_u_read_status dc_u_read_status pm_u_read_status cd_u_read_status ct_u_read_status : Value}
    {f_read_piece : Addr} {od_read_piece an_read_piece : Option Addr} {sl_read_piece : Array (Option Value)} {oc_read_piece kV_read_piece dc_read_piece pm_read_piece cd_read_piece ct_read_piece : Value}
    {f_u_law_two : Addr} {od_u_law_two an_u_law_two : Option Addr} {sl_u_law_two : Array (Option Value)} {oc_u_law_two kV_u_law_two dc_u_law_two pm_u_law_two cd_u_law_two ct_u_law_two : Value}
    {f_u_law_tape : Addr} {od_u_law_tape an_u_law_tape : Option Addr} {sl_u_law_tape : Array (Option Value)} {oc_u_law_tape kV_u_law_tape dc_u_law_tape pm_u_law_tape cd_u_law_tape ct_u_law_tape : Value}
    {f_u_law_at : Addr} {od_u_law_at an_u_law_at : Option Addr} {sl_u_law_at : Array (Option Value)} {oc_u_law_at kV_u_law_at dc_u_law_at pm_u_law_at cd_u_law_at ct_u_law_at : Value}
    {f_u_law_bytes : Addr} {od_u_law_bytes an_u_law_bytes : Option Addr} {sl_u_law_bytes : Array (Option Value)} {oc_u_law_bytes kV_u_law_bytes dc_u_law_bytes pm_u_law_bytes cd_u_law_bytes ct_u_law_bytes : Value}
    {f_u_law_data : Addr} {od_u_law_data an_u_law_data : Option Addr} {sl_u_law_data : Array (Option Value)} {oc_u_law_data kV_u_law_data dc_u_law_data pm_u_law_data cd_u_law_data ct_u_law_data : Value}
    {f_u_law_status : Addr} {od_u_law_status an_u_law_status : Option Addr} {sl_u_law_status : Array (Option Value)} {oc_u_law_status kV_u_law_status dc_u_law_status pm_u_law_status cd_u_law_status ct_u_law_status : Value}
    {f_u_law_many : Addr} {od_u_law_many an_u_law_many : Option Addr} {sl_u_law_many : Array (Option Value)} {oc_u_law_many kV_u_law_many dc_u_law_many pm_u_law_many cd_u_law_many ct_u_law_many : Value}
    {f_u_law_bit : Addr} {od_u_law_bit an_u_law_bit : Option Addr} {sl_u_law_bit : Array (Option Value)} {oc_u_law_bit kV_u_law_bit dc_u_law_bit pm_u_law_bit cd_u_law_bit ct_u_law_bit : Value}
    {f_u_law_field : Addr} {od_u_law_field an_u_law_field : Option Addr} {sl_u_law_field : Array (Option Value)} {oc_u_law_field kV_u_law_field dc_u_law_field pm_u_law_field cd_u_law_field ct_u_law_field : Value}
    {f_u_law_read : Addr} {od_u_law_read an_u_law_read : Option Addr} {sl_u_law_read : Array (Option Value)} {oc_u_law_read kV_u_law_read dc_u_law_read pm_u_law_read cd_u_law_read ct_u_law_read : Value}
    {f_u_law_refused : Addr} {od_u_law_refused an_u_law_refused : Option Addr} {sl_u_law_refused : Array (Option Value)} {oc_u_law_refused kV_u_law_refused dc_u_law_refused pm_u_law_refused cd_u_law_refused ct_u_law_refused : Value}
    {f_u_law_bent : Addr} {od_u_law_bent an_u_law_bent : Option Addr} {sl_u_law_bent : Array (Option Value)} {oc_u_law_bent kV_u_law_bent dc_u_law_bent pm_u_law_bent cd_u_law_bent ct_u_law_bent : Value}
    {f_law : Addr} {od_law an_law : Option Addr} {sl_law : Array (Option Value)} {oc_law kV_law dc_law pm_law cd_law ct_law : Value}
    {nm_BearerError q_BearerError : Str} {N_BearerError : Addr} {bs_BearerError bm_BearerError : List Value} {sn_BearerError : List Str} {sub_BearerError : List Value} {ab_BearerError : Bool} {col_BearerError : Option Bool} {dd_BearerError : Option Addr} {m0_BearerError m1_BearerError m2_BearerError m3_BearerError m5_BearerError : Option Value}
    {nm_NotValid q_NotValid : Str} {N_NotValid : Addr} {bs_NotValid bm_NotValid : List Value} {sn_NotValid : List Str} {sub_NotValid : List Value} {ab_NotValid : Bool} {col_NotValid : Option Bool} {dd_NotValid : Option Addr} {m0_NotValid m1_NotValid m2_NotValid m3_NotValid m5_NotValid : Option Value}
    (z_len : PySem.W.nsIn K mainGlobals "len" = some none)
    (z_range : PySem.W.nsIn K mainGlobals "range" = some none)
    (z_abs : PySem.W.nsIn K mainGlobals "abs" = some none)
    (z_int : PySem.W.nsIn K mainGlobals "int" = some none)
    (z_sum : PySem.W.nsIn K mainGlobals "sum" = some none)
    (z_zip : PySem.W.nsIn K mainGlobals "zip" = some none)
    (z_isinstance : PySem.W.nsIn K mainGlobals "isinstance" = some none)
    (z_list : PySem.W.nsIn K mainGlobals "list" = some none)
    (z_bool : PySem.W.nsIn K mainGlobals "bool" = some none)
    (z_MOST_BYTES : PySem.W.nsIn K mainGlobals "MOST_BYTES" = some (some (.int 200 tk_MOST_BYTES)))
    (z_MOST_MISSING : PySem.W.nsIn K mainGlobals "MOST_MISSING" = some (some (.int 8 tk_MOST_MISSING)))
    (z_DATA : PySem.W.nsIn K mainGlobals "DATA" = some (some (.int 0 tk_DATA)))
    (z_STATUS : PySem.W.nsIn K mainGlobals "STATUS" = some (some (.int 1 tk_STATUS)))
    (z_WHOLE : PySem.W.nsIn K mainGlobals "WHOLE" = some (some (.int 0 tk_WHOLE)))
    (z_END : PySem.W.nsIn K mainGlobals "END" = some (some (.int 2 tk_END)))
    (z_WITHIN : PySem.W.nsIn K mainGlobals "WITHIN" = some (some (.int 3 tk_WITHIN)))
    (z_BearerError : PySem.W.nsIn K mainGlobals "BearerError" = some (some (.ref C_BearerError)))
    (z_NotValid : PySem.W.nsIn K mainGlobals "NotValid" = some (some (.ref C_NotValid)))
    (a_BearerError___init : PySem.W.findIn K (.ref C_BearerError) "__init__" = some (some (.ref f_BearerError___init)))
    (i_BearerError___init : PySem.W.isFn K (.ref f_BearerError___init) = true)
    (l_BearerError___init : K.lookup f_BearerError___init = some ⟨oc_BearerError___init, od_BearerError___init, .func (PySem.W.fnOf "__init__" "BearerError.__init__" (defArgs S_BearerError___init) (defBody S_BearerError___init) (defScope S_BearerError___init) .none kV_BearerError___init dc_BearerError___init pm_BearerError___init an_BearerError___init cd_BearerError___init ct_BearerError___init), sl_BearerError___init⟩)
    (c_BearerError___init : PySem.W.codeIn K cd_BearerError___init "BearerError.__init__" = true)
    (k_BearerError___init : PySem.W.keepIn K (.ref f_BearerError___init) = true)
    (a_field_bytes : PySem.W.nsIn K mainGlobals "field_bytes" = some (some (.ref f_field_bytes)))
    (l_field_bytes : K.lookup f_field_bytes = some ⟨oc_field_bytes, od_field_bytes, .func (PySem.W.fnOf "field_bytes" "field_bytes" (defArgs S_field_bytes) (defBody S_field_bytes) (defScope S_field_bytes) .none kV_field_bytes dc_field_bytes pm_field_bytes an_field_bytes cd_field_bytes ct_field_bytes), sl_field_bytes⟩)
    (c_field_bytes : PySem.W.codeIn K cd_field_bytes "field_bytes" = true)
    (k_field_bytes : PySem.W.keepIn K (.ref f_field_bytes) = true)
    (a_pack : PySem.W.nsIn K mainGlobals "pack" = some (some (.ref f_pack)))
    (l_pack : K.lookup f_pack = some ⟨oc_pack, od_pack, .func (PySem.W.fnOf "pack" "pack" (defArgs S_pack) (defBody S_pack) (defScope S_pack) .none kV_pack dc_pack pm_pack an_pack cd_pack ct_pack), sl_pack⟩)
    (c_pack : PySem.W.codeIn K cd_pack "pack" = true)
    (k_pack : PySem.W.keepIn K (.ref f_pack) = true)
    (a_unpack : PySem.W.nsIn K mainGlobals "unpack" = some (some (.ref f_unpack)))
    (l_unpack : K.lookup f_unpack = some ⟨oc_unpack, od_unpack, .func (PySem.W.fnOf "unpack" "unpack" (defArgs S_unpack) (defBody S_unpack) (defScope S_unpack) .none kV_unpack dc_unpack pm_unpack an_unpack cd_unpack ct_unpack), sl_unpack⟩)
    (c_unpack : PySem.W.codeIn K cd_unpack "unpack" = true)
    (k_unpack : PySem.W.keepIn K (.ref f_unpack) = true)
    (a_short : PySem.W.nsIn K mainGlobals "short" = some (some (.ref f_short)))
    (l_short : K.lookup f_short = some ⟨oc_short, od_short, .func (PySem.W.fnOf "short" "short" (defArgs S_short) (defBody S_short) (defScope S_short) .none kV_short dc_short pm_short an_short cd_short ct_short), sl_short⟩)
    (c_short : PySem.W.codeIn K cd_short "short" = true)
    (k_short : PySem.W.keepIn K (.ref f_short) = true)
    (a_u_has_offset : PySem.W.nsIn K mainGlobals "_has_offset" = some (some (.ref f_u_has_offset)))
    (l_u_has_offset : K.lookup f_u_has_offset = some ⟨oc_u_has_offset, od_u_has_offset, .func (PySem.W.fnOf "_has_offset" "_has_offset" (defArgs S_u_has_offset) (defBody S_u_has_offset) (defScope S_u_has_offset) .none kV_u_has_offset dc_u_has_offset pm_u_has_offset an_u_has_offset cd_u_has_offset ct_u_has_offset), sl_u_has_offset⟩)
    (c_u_has_offset : PySem.W.codeIn K cd_u_has_offset "_has_offset" = true)
    (k_u_has_offset : PySem.W.keepIn K (.ref f_u_has_offset) = true)
    (a_u_data_widths : PySem.W.nsIn K mainGlobals "_data_widths" = some (some (.ref f_u_data_widths)))
    (l_u_data_widths : K.lookup f_u_data_widths = some ⟨oc_u_data_widths, od_u_data_widths, .func (PySem.W.fnOf "_data_widths" "_data_widths" (defArgs S_u_data_widths) (defBody S_u_data_widths) (defScope S_u_data_widths) .none kV_u_data_widths dc_u_data_widths pm_u_data_widths an_u_data_widths cd_u_data_widths ct_u_data_widths), sl_u_data_widths⟩)
    (c_u_data_widths : PySem.W.codeIn K cd_u_data_widths "_data_widths" = true)
    (k_u_data_widths : PySem.W.keepIn K (.ref f_u_data_widths) = true)
    (a_u_status_head : PySem.W.nsIn K mainGlobals "_status_head" = some (some (.ref f_u_status_head)))
    (l_u_status_head : K.lookup f_u_status_head = some ⟨oc_u_status_head, od_u_status_head, .func (PySem.W.fnOf "_status_head" "_status_head" (defArgs S_u_status_head) (defBody S_u_status_head) (defScope S_u_status_head) .none kV_u_status_head dc_u_status_head pm_u_status_head an_u_status_head cd_u_status_head ct_u_status_head), sl_u_status_head⟩)
    (c_u_status_head : PySem.W.codeIn K cd_u_status_head "_status_head" = true)
    (k_u_status_head : PySem.W.keepIn K (.ref f_u_status_head) = true)
    (a_u_range_widths : PySem.W.nsIn K mainGlobals "_range_widths" = some (some (.ref f_u_range_widths)))
    (l_u_range_widths : K.lookup f_u_range_widths = some ⟨oc_u_range_widths, od_u_range_widths, .func (PySem.W.fnOf "_range_widths" "_range_widths" (defArgs S_u_range_widths) (defBody S_u_range_widths) (defScope S_u_range_widths) .none kV_u_range_widths dc_u_range_widths pm_u_range_widths an_u_range_widths cd_u_range_widths ct_u_range_widths), sl_u_range_widths⟩)
    (c_u_range_widths : PySem.W.codeIn K cd_u_range_widths "_range_widths" = true)
    (k_u_range_widths : PySem.W.keepIn K (.ref f_u_range_widths) = true)
    (a_data_piece : PySem.W.nsIn K mainGlobals "data_piece" = some (some (.ref f_data_piece)))
    (l_data_piece : K.lookup f_data_piece = some ⟨oc_data_piece, od_data_piece, .func (PySem.W.fnOf "data_piece" "data_piece" (defArgs S_data_piece) (defBody S_data_piece) (defScope S_data_piece) .none kV_data_piece dc_data_piece pm_data_piece an_data_piece cd_data_piece ct_data_piece), sl_data_piece⟩)
    (c_data_piece : PySem.W.codeIn K cd_data_piece "data_piece" = true)
    (k_data_piece : PySem.W.keepIn K (.ref f_data_piece) = true)
    (a_status_piece : PySem.W.nsIn K mainGlobals "status_piece" = some (some (.ref f_status_piece)))
    (l_status_piece : K.lookup f_status_piece = some ⟨oc_status_piece, od_status_piece, .func (PySem.W.fnOf "status_piece" "status_piece" (defArgs S_status_piece) (defBody S_status_piece) (defScope S_status_piece) .none kV_status_piece dc_status_piece pm_status_piece an_status_piece cd_status_piece ct_status_piece), sl_status_piece⟩)
    (c_status_piece : PySem.W.codeIn K cd_status_piece "status_piece" = true)
    (k_status_piece : PySem.W.keepIn K (.ref f_status_piece) = true)
    (a_status_bytes : PySem.W.nsIn K mainGlobals "status_bytes" = some (some (.ref f_status_bytes)))
    (l_status_bytes : K.lookup f_status_bytes = some ⟨oc_status_bytes, od_status_bytes, .func (PySem.W.fnOf "status_bytes" "status_bytes" (defArgs S_status_bytes) (defBody S_status_bytes) (defScope S_status_bytes) .none kV_status_bytes dc_status_bytes pm_status_bytes an_status_bytes cd_status_bytes ct_status_bytes), sl_status_bytes⟩)
    (c_status_bytes : PySem.W.codeIn K cd_status_bytes "status_bytes" = true)
    (k_status_bytes : PySem.W.keepIn K (.ref f_status_bytes) = true)
    (a_u_read_data : PySem.W.nsIn K mainGlobals "_read_data" = some (some (.ref f_u_read_data)))
    (l_u_read_data : K.lookup f_u_read_data = some ⟨oc_u_read_data, od_u_read_data, .func (PySem.W.fnOf "_read_data" "_read_data" (defArgs S_u_read_data) (defBody S_u_read_data) (defScope S_u_read_data) .none kV_u_read_data dc_u_read_data pm_u_read_data an_u_read_data cd_u_read_data ct_u_read_data), sl_u_read_data⟩)
    (c_u_read_data : PySem.W.codeIn K cd_u_read_data "_read_data" = true)
    (k_u_read_data : PySem.W.keepIn K (.ref f_u_read_data) = true)
    (a_u_read_status : PySem.W.nsIn K mainGlobals "_read_status" = some (some (.ref f_u_read_status)))
    (l_u_read_status : K.lookup f_u_read_status = some ⟨oc_u_read_status, od_u_read_status, .func (PySem.W.fnOf "_read_status" "_read_status" (defArgs S_u_read_status) (defBody S_u_read_status) (defScope S_u_read_status) .none kV_u_read_status dc_u_read_status pm_u_read_status an_u_read_status cd_u_read_status ct_u_read_status), sl_u_read_status⟩)
    (c_u_read_status : PySem.W.codeIn K cd_u_read_status "_read_status" = true)
    (k_u_read_status : PySem.W.keepIn K (.ref f_u_read_status) = true)
    (a_read_piece : PySem.W.nsIn K mainGlobals "read_piece" = some (some (.ref f_read_piece)))
    (l_read_piece : K.lookup f_read_piece = some ⟨oc_read_piece, od_read_piece, .func (PySem.W.fnOf "read_piece" "read_piece" (defArgs S_read_piece) (defBody S_read_piece) (defScope S_read_piece) .none kV_read_piece dc_read_piece pm_read_piece an_read_piece cd_read_piece ct_read_piece), sl_read_piece⟩)
    (c_read_piece : PySem.W.codeIn K cd_read_piece "read_piece" = true)
    (k_read_piece : PySem.W.keepIn K (.ref f_read_piece) = true)
    (a_u_law_two : PySem.W.nsIn K mainGlobals "_law_two" = some (some (.ref f_u_law_two)))
    (l_u_law_two : K.lookup f_u_law_two = some ⟨oc_u_law_two, od_u_law_two, .func (PySem.W.fnOf "_law_two" "_law_two" (defArgs S_u_law_two) (defBody S_u_law_two) (defScope S_u_law_two) .none kV_u_law_two dc_u_law_two pm_u_law_two an_u_law_two cd_u_law_two ct_u_law_two), sl_u_law_two⟩)
    (c_u_law_two : PySem.W.codeIn K cd_u_law_two "_law_two" = true)
    (k_u_law_two : PySem.W.keepIn K (.ref f_u_law_two) = true)
    (a_u_law_tape : PySem.W.nsIn K mainGlobals "_law_tape" = some (some (.ref f_u_law_tape)))
    (l_u_law_tape : K.lookup f_u_law_tape = some ⟨oc_u_law_tape, od_u_law_tape, .func (PySem.W.fnOf "_law_tape" "_law_tape" (defArgs S_u_law_tape) (defBody S_u_law_tape) (defScope S_u_law_tape) .none kV_u_law_tape dc_u_law_tape pm_u_law_tape an_u_law_tape cd_u_law_tape ct_u_law_tape), sl_u_law_tape⟩)
    (c_u_law_tape : PySem.W.codeIn K cd_u_law_tape "_law_tape" = true)
    (k_u_law_tape : PySem.W.keepIn K (.ref f_u_law_tape) = true)
    (a_u_law_at : PySem.W.nsIn K mainGlobals "_law_at" = some (some (.ref f_u_law_at)))
    (l_u_law_at : K.lookup f_u_law_at = some ⟨oc_u_law_at, od_u_law_at, .func (PySem.W.fnOf "_law_at" "_law_at" (defArgs S_u_law_at) (defBody S_u_law_at) (defScope S_u_law_at) .none kV_u_law_at dc_u_law_at pm_u_law_at an_u_law_at cd_u_law_at ct_u_law_at), sl_u_law_at⟩)
    (c_u_law_at : PySem.W.codeIn K cd_u_law_at "_law_at" = true)
    (k_u_law_at : PySem.W.keepIn K (.ref f_u_law_at) = true)
    (a_u_law_bytes : PySem.W.nsIn K mainGlobals "_law_bytes" = some (some (.ref f_u_law_bytes)))
    (l_u_law_bytes : K.lookup f_u_law_bytes = some ⟨oc_u_law_bytes, od_u_law_bytes, .func (PySem.W.fnOf "_law_bytes" "_law_bytes" (defArgs S_u_law_bytes) (defBody S_u_law_bytes) (defScope S_u_law_bytes) .none kV_u_law_bytes dc_u_law_bytes pm_u_law_bytes an_u_law_bytes cd_u_law_bytes ct_u_law_bytes), sl_u_law_bytes⟩)
    (c_u_law_bytes : PySem.W.codeIn K cd_u_law_bytes "_law_bytes" = true)
    (k_u_law_bytes : PySem.W.keepIn K (.ref f_u_law_bytes) = true)
    (a_u_law_data : PySem.W.nsIn K mainGlobals "_law_data" = some (some (.ref f_u_law_data)))
    (l_u_law_data : K.lookup f_u_law_data = some ⟨oc_u_law_data, od_u_law_data, .func (PySem.W.fnOf "_law_data" "_law_data" (defArgs S_u_law_data) (defBody S_u_law_data) (defScope S_u_law_data) .none kV_u_law_data dc_u_law_data pm_u_law_data an_u_law_data cd_u_law_data ct_u_law_data), sl_u_law_data⟩)
    (c_u_law_data : PySem.W.codeIn K cd_u_law_data "_law_data" = true)
    (k_u_law_data : PySem.W.keepIn K (.ref f_u_law_data) = true)
    (a_u_law_status : PySem.W.nsIn K mainGlobals "_law_status" = some (some (.ref f_u_law_status)))
    (l_u_law_status : K.lookup f_u_law_status = some ⟨oc_u_law_status, od_u_law_status, .func (PySem.W.fnOf "_law_status" "_law_status" (defArgs S_u_law_status) (defBody S_u_law_status) (defScope S_u_law_status) .none kV_u_law_status dc_u_law_status pm_u_law_status an_u_law_status cd_u_law_status ct_u_law_status), sl_u_law_status⟩)
    (c_u_law_status : PySem.W.codeIn K cd_u_law_status "_law_status" = true)
    (k_u_law_status : PySem.W.keepIn K (.ref f_u_law_status) = true)
    (a_u_law_many : PySem.W.nsIn K mainGlobals "_law_many" = some (some (.ref f_u_law_many)))
    (l_u_law_many : K.lookup f_u_law_many = some ⟨oc_u_law_many, od_u_law_many, .func (PySem.W.fnOf "_law_many" "_law_many" (defArgs S_u_law_many) (defBody S_u_law_many) (defScope S_u_law_many) .none kV_u_law_many dc_u_law_many pm_u_law_many an_u_law_many cd_u_law_many ct_u_law_many), sl_u_law_many⟩)
    (c_u_law_many : PySem.W.codeIn K cd_u_law_many "_law_many" = true)
    (k_u_law_many : PySem.W.keepIn K (.ref f_u_law_many) = true)
    (a_u_law_bit : PySem.W.nsIn K mainGlobals "_law_bit" = some (some (.ref f_u_law_bit)))
    (l_u_law_bit : K.lookup f_u_law_bit = some ⟨oc_u_law_bit, od_u_law_bit, .func (PySem.W.fnOf "_law_bit" "_law_bit" (defArgs S_u_law_bit) (defBody S_u_law_bit) (defScope S_u_law_bit) .none kV_u_law_bit dc_u_law_bit pm_u_law_bit an_u_law_bit cd_u_law_bit ct_u_law_bit), sl_u_law_bit⟩)
    (c_u_law_bit : PySem.W.codeIn K cd_u_law_bit "_law_bit" = true)
    (k_u_law_bit : PySem.W.keepIn K (.ref f_u_law_bit) = true)
    (a_u_law_field : PySem.W.nsIn K mainGlobals "_law_field" = some (some (.ref f_u_law_field)))
    (l_u_law_field : K.lookup f_u_law_field = some ⟨oc_u_law_field, od_u_law_field, .func (PySem.W.fnOf "_law_field" "_law_field" (defArgs S_u_law_field) (defBody S_u_law_field) (defScope S_u_law_field) .none kV_u_law_field dc_u_law_field pm_u_law_field an_u_law_field cd_u_law_field ct_u_law_field), sl_u_law_field⟩)
    (c_u_law_field : PySem.W.codeIn K cd_u_law_field "_law_field" = true)
    (k_u_law_field : PySem.W.keepIn K (.ref f_u_law_field) = true)
    (a_u_law_read : PySem.W.nsIn K mainGlobals "_law_read" = some (some (.ref f_u_law_read)))
    (l_u_law_read : K.lookup f_u_law_read = some ⟨oc_u_law_read, od_u_law_read, .func (PySem.W.fnOf "_law_read" "_law_read" (defArgs S_u_law_read) (defBody S_u_law_read) (defScope S_u_law_read) .none kV_u_law_read dc_u_law_read pm_u_law_read an_u_law_read cd_u_law_read ct_u_law_read), sl_u_law_read⟩)
    (c_u_law_read : PySem.W.codeIn K cd_u_law_read "_law_read" = true)
    (k_u_law_read : PySem.W.keepIn K (.ref f_u_law_read) = true)
    (a_u_law_refused : PySem.W.nsIn K mainGlobals "_law_refused" = some (some (.ref f_u_law_refused)))
    (l_u_law_refused : K.lookup f_u_law_refused = some ⟨oc_u_law_refused, od_u_law_refused, .func (PySem.W.fnOf "_law_refused" "_law_refused" (defArgs S_u_law_refused) (defBody S_u_law_refused) (defScope S_u_law_refused) .none kV_u_law_refused dc_u_law_refused pm_u_law_refused an_u_law_refused cd_u_law_refused ct_u_law_refused), sl_u_law_refused⟩)
    (c_u_law_refused : PySem.W.codeIn K cd_u_law_refused "_law_refused" = true)
    (k_u_law_refused : PySem.W.keepIn K (.ref f_u_law_refused) = true)
    (a_u_law_bent : PySem.W.nsIn K mainGlobals "_law_bent" = some (some (.ref f_u_law_bent)))
    (l_u_law_bent : K.lookup f_u_law_bent = some ⟨oc_u_law_bent, od_u_law_bent, .func (PySem.W.fnOf "_law_bent" "_law_bent" (defArgs S_u_law_bent) (defBody S_u_law_bent) (defScope S_u_law_bent) .none kV_u_law_bent dc_u_law_bent pm_u_law_bent an_u_law_bent cd_u_law_bent ct_u_law_bent), sl_u_law_bent⟩)
    (c_u_law_bent : PySem.W.codeIn K cd_u_law_bent "_law_bent" = true)
    (k_u_law_bent : PySem.W.keepIn K (.ref f_u_law_bent) = true)
    (a_law : PySem.W.nsIn K mainGlobals "law" = some (some (.ref f_law)))
    (l_law : K.lookup f_law = some ⟨oc_law, od_law, .func (PySem.W.fnOf "law" "law" (defArgs S_law) (defBody S_law) (defScope S_law) .none kV_law dc_law pm_law an_law cd_law ct_law), sl_law⟩)
    (c_law : PySem.W.codeIn K cd_law "law" = true)
    (k_law : PySem.W.keepIn K (.ref f_law) = true)
    (xL_BearerError : K.lookup C_BearerError = some (excClassObj nm_BearerError q_BearerError C_BearerError N_BearerError bs_BearerError bm_BearerError true sn_BearerError sub_BearerError ab_BearerError col_BearerError dd_BearerError m0_BearerError m1_BearerError m2_BearerError m3_BearerError m5_BearerError "ValueError.__new__"))
    (xB_BearerError : PySem.HandSPX.refsVE bm_BearerError = true)
    (sa_BearerError : PySem.W.findIn K (.ref C_BearerError) "__setattr__" = some (some (.builtin "object.__setattr__")))
    (ex_BearerError : PySem.W.subIn K (.ref C_BearerError) (.type "BaseException") = some true)
    (ty_BearerError : PySem.W.typeIn K (.ref C_BearerError) = some (.type "type"))
    (kC_BearerError : PySem.W.keepIn K (.ref C_BearerError) = true)
    (ii_BearerError : PySem.W.findIn K (.ref C_BearerError) "__init__" = some (some (.ref f_BearerError___init)))
    (ti_BearerError : PySem.W.typeIn K (.ref f_BearerError___init) = some (.type "function"))
    (ga_BearerError : PySem.W.findIn K (.ref C_BearerError) "__getattribute__" = some (some (.builtin "BaseException.__getattribute__")))
    (gg_BearerError : PySem.W.findIn K (.ref C_BearerError) "__getattr__" = some none)
    (hd_BearerError : PySem.W.hasDictIn K C_BearerError = true)
    (hc_BearerError : PySem.W.findIn K (.ref C_BearerError) "__class__" = some (some (.builtin "object.__class__")))
    (mo_BearerError : PySem.W.mroIn K C_BearerError (.type "object") = some true)
    (ic_BearerError : PySem.W.isClsIn K C_BearerError = true)
    (sb_BearerError_BearerError : PySem.W.subIn K (.ref C_BearerError) (.ref C_BearerError) = some true)
    (sb_BearerError_NotValid : PySem.W.subIn K (.ref C_BearerError) (.ref C_NotValid) = some false)
    (xL_NotValid : K.lookup C_NotValid = some (excClassObj nm_NotValid q_NotValid C_NotValid N_NotValid bs_NotValid bm_NotValid true sn_NotValid sub_NotValid ab_NotValid col_NotValid dd_NotValid m0_NotValid m1_NotValid m2_NotValid m3_NotValid m5_NotValid "ValueError.__new__"))
    (xB_NotValid : PySem.HandSPX.refsVE bm_NotValid = true)
    (sa_NotValid : PySem.W.findIn K (.ref C_NotValid) "__setattr__" = some (some (.builtin "object.__setattr__")))
    (ex_NotValid : PySem.W.subIn K (.ref C_NotValid) (.type "BaseException") = some true)
    (ty_NotValid : PySem.W.typeIn K (.ref C_NotValid) = some (.type "type"))
    (kC_NotValid : PySem.W.keepIn K (.ref C_NotValid) = true)
    (ii_NotValid : PySem.W.findIn K (.ref C_NotValid) "__init__" = some (some (.ref f_BearerError___init)))
    (ti_NotValid : PySem.W.typeIn K (.ref f_BearerError___init) = some (.type "function"))
    (ga_NotValid : PySem.W.findIn K (.ref C_NotValid) "__getattribute__" = some (some (.builtin "BaseException.__getattribute__")))
    (gg_NotValid : PySem.W.findIn K (.ref C_NotValid) "__getattr__" = some none)
    (hd_NotValid : PySem.W.hasDictIn K C_NotValid = true)
    (hc_NotValid : PySem.W.findIn K (.ref C_NotValid) "__class__" = some (some (.builtin "object.__class__")))
    (mo_NotValid : PySem.W.mroIn K C_NotValid (.type "object") = some true)
    (ic_NotValid : PySem.W.isClsIn K C_NotValid = true)
    (sb_NotValid_BearerError : PySem.W.subIn K (.ref C_NotValid) (.ref C_BearerError) = some true)
    (sb_NotValid_NotValid : PySem.W.subIn K (.ref C_NotValid) (.ref C_NotValid) = some true)
    (sn_get : PySem.W.specialIn K (.builtin "object.__class__") "__get__" = some (some (.builtin "getset_descriptor.__get__")))
    (tk_get : PySem.W.takesIn K (.builtin "object.__class__") = some true)
    : ∃ fd : FuncData, (∀ (s : Shared) (v : Value), BindsTo s fd ⟨[v], []⟩ [("script", v)]) ∧ ∀ base : Heap, K.In base → base.Ns mainGlobals mg → FnOk P w K mg base CX0 7 fa fd ["script"] (ip_law K) := by
  have e := hfa.symm.trans (PySem.W.mg_of X G a_law)
  cases e
  have F_BearerError___init := fun_mk (st := S_BearerError___init) l_BearerError___init c_BearerError___init k_BearerError___init
  have b_BearerError___init := F_BearerError___init.binds (ps := ["self"]) fun _ _ _ _ _ _ us hl => match us, hl with | [_], _ => rfl
  have F_field_bytes := fun_mk (st := S_field_bytes) l_field_bytes c_field_bytes k_field_bytes
  have b_field_bytes := F_field_bytes.binds (ps := ["widths"]) fun _ _ _ _ _ _ us hl => match us, hl with | [_], _ => rfl
  have F_pack := fun_mk (st := S_pack) l_pack c_pack k_pack
  have b_pack := F_pack.binds (ps := ["widths", "values"]) fun _ _ _ _ _ _ us hl => match us, hl with | [_, _], _ => rfl
  have F_unpack := fun_mk (st := S_unpack) l_unpack c_unpack k_unpack
  have b_unpack := F_unpack.binds (ps := ["widths", "data"]) fun _ _ _ _ _ _ us hl => match us, hl with | [_, _], _ => rfl
  have F_short := fun_mk (st := S_short) l_short c_short k_short
  have b_short := F_short.binds (ps := ["number", "bits"]) fun _ _ _ _ _ _ us hl => match us, hl with | [_, _], _ => rfl
  have F_u_has_offset := fun_mk (st := S_u_has_offset) l_u_has_offset c_u_has_offset k_u_has_offset
  have b_u_has_offset := F_u_has_offset.binds (ps := ["part"]) fun _ _ _ _ _ _ us hl => match us, hl with | [_], _ => rfl
  have F_u_data_widths := fun_mk (st := S_u_data_widths) l_u_data_widths c_u_data_widths k_u_data_widths
  have b_u_data_widths := F_u_data_widths.binds (ps := ["bits", "part"]) fun _ _ _ _ _ _ us hl => match us, hl with | [_, _], _ => rfl
  have F_u_status_head := fun_mk (st := S_u_status_head) l_u_status_head c_u_status_head k_u_status_head
  have b_u_status_head := F_u_status_head.binds (ps := ["bits"]) fun _ _ _ _ _ _ us hl => match us, hl with | [_], _ => rfl
  have F_u_range_widths := fun_mk (st := S_u_range_widths) l_u_range_widths c_u_range_widths k_u_range_widths
  have b_u_range_widths := F_u_range_widths.binds (ps := ["bits"]) fun _ _ _ _ _ _ us hl => match us, hl with | [_], _ => rfl
  have F_data_piece := fun_mk (st := S_data_piece) l_data_piece c_data_piece k_data_piece
  have b_data_piece := F_data_piece.binds (ps := ["bits", "poll", "number", "part", "offset", "body"]) fun _ _ _ _ _ _ us hl => match us, hl with | [_, _, _, _, _, _], _ => rfl
  have F_status_piece := fun_mk (st := S_status_piece) l_status_piece c_status_piece k_status_piece
  have b_status_piece := F_status_piece.binds (ps := ["bits", "upto", "missing"]) fun _ _ _ _ _ _ us hl => match us, hl with | [_, _, _], _ => rfl
  have F_status_bytes := fun_mk (st := S_status_bytes) l_status_bytes c_status_bytes k_status_bytes
  have b_status_bytes := F_status_bytes.binds (ps := ["bits", "count"]) fun _ _ _ _ _ _ us hl => match us, hl with | [_, _], _ => rfl
  have F_u_read_data := fun_mk (st := S_u_read_data) l_u_read_data c_u_read_data k_u_read_data
  have b_u_read_data := F_u_read_data.binds (ps := ["bits", "piece"]) fun _ _ _ _ _ _ us hl => match us, hl with | [_, _], _ => rfl
  have F_u_read_status := fun_mk (st := S_u_read_status) l_u_read_status c_u_read_status k_u_read_status
  have b_u_read_status := F_u_read_status.binds (ps := ["bits", "piece"]) fun _ _ _ _ _ _ us hl => match us, hl with | [_, _], _ => rfl
  have F_read_piece := fun_mk (st := S_read_piece) l_read_piece c_read_piece k_read_piece
  have b_read_piece := F_read_piece.binds (ps := ["bits", "piece"]) fun _ _ _ _ _ _ us hl => match us, hl with | [_, _], _ => rfl
  have F_u_law_two := fun_mk (st := S_u_law_two) l_u_law_two c_u_law_two k_u_law_two
  have b_u_law_two := F_u_law_two.binds (ps := ["many"]) fun _ _ _ _ _ _ us hl => match us, hl with | [_], _ => rfl
  have F_u_law_tape := fun_mk (st := S_u_law_tape) l_u_law_tape c_u_law_tape k_u_law_tape
  have b_u_law_tape := F_u_law_tape.binds (ps := ["script"]) fun _ _ _ _ _ _ us hl => match us, hl with | [_], _ => rfl
  have F_u_law_at := fun_mk (st := S_u_law_at) l_u_law_at c_u_law_at k_u_law_at
  have b_u_law_at := F_u_law_at.binds (ps := ["tape", "k"]) fun _ _ _ _ _ _ us hl => match us, hl with | [_, _], _ => rfl
  have F_u_law_bytes := fun_mk (st := S_u_law_bytes) l_u_law_bytes c_u_law_bytes k_u_law_bytes
  have b_u_law_bytes := F_u_law_bytes.binds (ps := ["widths", "values"]) fun _ _ _ _ _ _ us hl => match us, hl with | [_, _], _ => rfl
  have F_u_law_data := fun_mk (st := S_u_law_data) l_u_law_data c_u_law_data k_u_law_data
  have b_u_law_data := F_u_law_data.binds (ps := ["bits", "poll", "number", "part", "offset", "body"]) fun _ _ _ _ _ _ us hl => match us, hl with | [_, _, _, _, _, _], _ => rfl
  have F_u_law_status := fun_mk (st := S_u_law_status) l_u_law_status c_u_law_status k_u_law_status
  have b_u_law_status := F_u_law_status.binds (ps := ["bits", "upto", "missing"]) fun _ _ _ _ _ _ us hl => match us, hl with | [_, _, _], _ => rfl
  have F_u_law_many := fun_mk (st := S_u_law_many) l_u_law_many c_u_law_many k_u_law_many
  have b_u_law_many := F_u_law_many.binds (ps := ["bits", "count"]) fun _ _ _ _ _ _ us hl => match us, hl with | [_, _], _ => rfl
  have F_u_law_bit := fun_mk (st := S_u_law_bit) l_u_law_bit c_u_law_bit k_u_law_bit
  have b_u_law_bit := F_u_law_bit.binds (ps := ["data", "at"]) fun _ _ _ _ _ _ us hl => match us, hl with | [_, _], _ => rfl
  have F_u_law_field := fun_mk (st := S_u_law_field) l_u_law_field c_u_law_field k_u_law_field
  have b_u_law_field := F_u_law_field.binds (ps := ["data", "at", "width"]) fun _ _ _ _ _ _ us hl => match us, hl with | [_, _, _], _ => rfl
  have F_u_law_read := fun_mk (st := S_u_law_read) l_u_law_read c_u_law_read k_u_law_read
  have b_u_law_read := F_u_law_read.binds (ps := ["bits", "data"]) fun _ _ _ _ _ _ us hl => match us, hl with | [_, _], _ => rfl
  have F_u_law_refused := fun_mk (st := S_u_law_refused) l_u_law_refused c_u_law_refused k_u_law_refused
  have b_u_law_refused := F_u_law_refused.binds (ps := ["bits", "missing"]) fun _ _ _ _ _ _ us hl => match us, hl with | [_, _], _ => rfl
  have F_u_law_bent := fun_mk (st := S_u_law_bent) l_u_law_bent c_u_law_bent k_u_law_bent
  have b_u_law_bent := F_u_law_bent.binds (ps := ["tape", "piece", "start"]) fun _ _ _ _ _ _ us hl => match us, hl with | [_, _, _], _ => rfl
  have F_law := fun_mk (st := S_law) l_law c_law k_law
  have b_law := F_law.binds (ps := ["script"]) fun _ _ _ _ _ _ us hl => match us, hl with | [_], _ => rfl
  refine ⟨PySem.W.fnOf "law" "law" (defArgs S_law) (defBody S_law) (defScope S_law) .none kV_law dc_law pm_law an_law cd_law ct_law, fun s v => .of_eq rfl, fun base _ _ => ?_⟩
  exact ok_law (T := ({
      n_len := PySem.W.mg_none_of X G z_len,
      n_range := PySem.W.mg_none_of X G z_range,
      n_abs := PySem.W.mg_none_of X G z_abs,
      n_int := PySem.W.mg_none_of X G z_int,
      n_sum := PySem.W.mg_none_of X G z_sum,
      n_zip := PySem.W.mg_none_of X G z_zip,
      n_isinstance := PySem.W.mg_none_of X G z_isinstance,
      n_list := PySem.W.mg_none_of X G z_list,
      n_bool := PySem.W.mg_none_of X G z_bool,
      g_MOST_BYTES := ⟨tk_MOST_BYTES, PySem.W.mg_of X G z_MOST_BYTES⟩,
      g_MOST_MISSING := ⟨tk_MOST_MISSING, PySem.W.mg_of X G z_MOST_MISSING⟩,
      g_DATA := ⟨tk_DATA, PySem.W.mg_of X G z_DATA⟩,
      g_STATUS := ⟨tk_STATUS, PySem.W.mg_of X G z_STATUS⟩,
      g_WHOLE := ⟨tk_WHOLE, PySem.W.mg_of X G z_WHOLE⟩,
      g_END := ⟨tk_END, PySem.W.mg_of X G z_END⟩,
      g_WITHIN := ⟨tk_WITHIN, PySem.W.mg_of X G z_WITHIN⟩,
      C_BearerError := C_BearerError,
      g_BearerError := PySem.W.mg_of X G z_BearerError,
      C_NotValid := C_NotValid,
      g_NotValid := PySem.W.mg_of X G z_NotValid,
      a_BearerError___init := _,
      d_BearerError___init := _,
      p_BearerError___init := ⟨F_BearerError___init, b_BearerError___init⟩,
      a_field_bytes := _,
      d_field_bytes := _,
      p_field_bytes := ⟨F_field_bytes, b_field_bytes, PySem.W.mg_of X G a_field_bytes⟩,
      a_pack := _,
      d_pack := _,
      p_pack := ⟨F_pack, b_pack, PySem.W.mg_of X G a_pack⟩,
      a_unpack := _,
      d_unpack := _,
      p_unpack := ⟨F_unpack, b_unpack, PySem.W.mg_of X G a_unpack⟩,
      a_short := _,
      d_short := _,
      p_short := ⟨F_short, b_short, PySem.W.mg_of X G a_short⟩,
      a_u_has_offset := _,
      d_u_has_offset := _,
      p_u_has_offset := ⟨F_u_has_offset, b_u_has_offset, PySem.W.mg_of X G a_u_has_offset⟩,
      a_u_data_widths := _,
      d_u_data_widths := _,
      p_u_data_widths := ⟨F_u_data_widths, b_u_data_widths, PySem.W.mg_of X G a_u_data_widths⟩,
      a_u_status_head := _,
      d_u_status_head := _,
      p_u_status_head := ⟨F_u_status_head, b_u_status_head, PySem.W.mg_of X G a_u_status_head⟩,
      a_u_range_widths := _,
      d_u_range_widths := _,
      p_u_range_widths := ⟨F_u_range_widths, b_u_range_widths, PySem.W.mg_of X G a_u_range_widths⟩,
      a_data_piece := _,
      d_data_piece := _,
      p_data_piece := ⟨F_data_piece, b_data_piece, PySem.W.mg_of X G a_data_piece⟩,
      a_status_piece := _,
      d_status_piece := _,
      p_status_piece := ⟨F_status_piece, b_status_piece, PySem.W.mg_of X G a_status_piece⟩,
      a_status_bytes := _,
      d_status_bytes := _,
      p_status_bytes := ⟨F_status_bytes, b_status_bytes, PySem.W.mg_of X G a_status_bytes⟩,
      a_u_read_data := _,
      d_u_read_data := _,
      p_u_read_data := ⟨F_u_read_data, b_u_read_data, PySem.W.mg_of X G a_u_read_data⟩,
      a_u_read_status := _,
      d_u_read_status := _,
      p_u_read_status := ⟨F_u_read_status, b_u_read_status, PySem.W.mg_of X G a_u_read_status⟩,
      a_read_piece := _,
      d_read_piece := _,
      p_read_piece := ⟨F_read_piece, b_read_piece, PySem.W.mg_of X G a_read_piece⟩,
      a_u_law_two := _,
      d_u_law_two := _,
      p_u_law_two := ⟨F_u_law_two, b_u_law_two, PySem.W.mg_of X G a_u_law_two⟩,
      a_u_law_tape := _,
      d_u_law_tape := _,
      p_u_law_tape := ⟨F_u_law_tape, b_u_law_tape, PySem.W.mg_of X G a_u_law_tape⟩,
      a_u_law_at := _,
      d_u_law_at := _,
      p_u_law_at := ⟨F_u_law_at, b_u_law_at, PySem.W.mg_of X G a_u_law_at⟩,
      a_u_law_bytes := _,
      d_u_law_bytes := _,
      p_u_law_bytes := ⟨F_u_law_bytes, b_u_law_bytes, PySem.W.mg_of X G a_u_law_bytes⟩,
      a_u_law_data := _,
      d_u_law_data := _,
      p_u_law_data := ⟨F_u_law_data, b_u_law_data, PySem.W.mg_of X G a_u_law_data⟩,
      a_u_law_status := _,
      d_u_law_status := _,
      p_u_law_status := ⟨F_u_law_status, b_u_law_status, PySem.W.mg_of X G a_u_law_status⟩,
      a_u_law_many := _,
      d_u_law_many := _,
      p_u_law_many := ⟨F_u_law_many, b_u_law_many, PySem.W.mg_of X G a_u_law_many⟩,
      a_u_law_bit := _,
      d_u_law_bit := _,
      p_u_law_bit := ⟨F_u_law_bit, b_u_law_bit, PySem.W.mg_of X G a_u_law_bit⟩,
      a_u_law_field := _,
      d_u_law_field := _,
      p_u_law_field := ⟨F_u_law_field, b_u_law_field, PySem.W.mg_of X G a_u_law_field⟩,
      a_u_law_read := _,
      d_u_law_read := _,
      p_u_law_read := ⟨F_u_law_read, b_u_law_read, PySem.W.mg_of X G a_u_law_read⟩,
      a_u_law_refused := _,
      d_u_law_refused := _,
      p_u_law_refused := ⟨F_u_law_refused, b_u_law_refused, PySem.W.mg_of X G a_u_law_refused⟩,
      a_u_law_bent := _,
      d_u_law_bent := _,
      p_u_law_bent := ⟨F_u_law_bent, b_u_law_bent, PySem.W.mg_of X G a_u_law_bent⟩,
      a_law := _,
      d_law := _,
      p_law := ⟨F_law, b_law, PySem.W.mg_of X G a_law⟩,
      o_BearerError := ⟨⟨nm_BearerError, q_BearerError, N_BearerError, bs_BearerError, bm_BearerError, sn_BearerError, sub_BearerError, ab_BearerError, col_BearerError, dd_BearerError, m0_BearerError, m1_BearerError, m2_BearerError, m3_BearerError, m5_BearerError, xL_BearerError, xB_BearerError⟩, sa_BearerError, ex_BearerError, ty_BearerError, kC_BearerError⟩,
      i_BearerError := ii_BearerError,
      t_BearerError := ti_BearerError,
      e_BearerError := ⟨ga_BearerError, gg_BearerError, ex_BearerError, hd_BearerError, hc_BearerError, sn_get, tk_get, mo_BearerError⟩,
      s_BearerError_BearerError := sb_BearerError_BearerError,
      s_BearerError_NotValid := sb_BearerError_NotValid,
      y_BearerError := ty_BearerError,
      l_BearerError := ic_BearerError,
      o_NotValid := ⟨⟨nm_NotValid, q_NotValid, N_NotValid, bs_NotValid, bm_NotValid, sn_NotValid, sub_NotValid, ab_NotValid, col_NotValid, dd_NotValid, m0_NotValid, m1_NotValid, m2_NotValid, m3_NotValid, m5_NotValid, xL_NotValid, xB_NotValid⟩, sa_NotValid, ex_NotValid, ty_NotValid, kC_NotValid⟩,
      i_NotValid := ii_NotValid,
      t_NotValid := ti_NotValid,
      e_NotValid := ⟨ga_NotValid, gg_NotValid, ex_NotValid, hd_NotValid, hc_NotValid, sn_get, tk_get, mo_NotValid⟩,
      s_NotValid_BearerError := sb_NotValid_BearerError,
      s_NotValid_NotValid := sb_NotValid_NotValid,
      y_NotValid := ty_NotValid,
      l_NotValid := ic_NotValid
    } : Tx P w K mg base))
theorem walk {l : PySem.W.OpenLaw} {q : Program} {loose : List Str} {XP : (Str → Option Value) → Heap → Prop} {YP : World → Heap → Prop} {d : DefRec} {K : Params → PySem.W.Frag} (hn : l.most = some 63) (hdf : d.params.defaults = [])
    (hY : ∀ (w : World) (h : Heap), YP w h → (K w.params).In h)
    (F : ∀ (w : World) (mg : Str → Option Value) (fa : Addr) (h : Heap), (K w.params).In h → h.Ns mainGlobals mg → mg d.name = some (.ref fa) →
      ∃ fd : FuncData, (∀ (s : Shared) (u : Value), BindsTo s fd ⟨[u], []⟩ [("script", u)]) ∧ ∀ base : Heap, (K w.params).In base → base.Ns mainGlobals mg → FnOk l.prog w (K w.params) mg base CX0 7 fa fd ["script"] (ip_law (K w.params))) :
    PySem.W.WalkO q loose XP YP l.row.toRowW d [] (fun f vs => PySem.call f vs) :=
  L2.walk_of (n := 63) (k := 7) (x := "script") (CX := fun _ => CX0) (sp := fun w => ip_law (K w.params)) hn (by decide) hdf ⟨rfl, by decide, by decide⟩ hY F (fun _ _ a ns hl _ hS => op_law ⟨a, ns, rfl, hS, hl, fun _ => rfl⟩) fun _ _ _ _ _ z => z
end My
open PySem PySem.W PyProof.Rows
set_option maxRecDepth 100000 in
set_option maxHeartbeats 0 in
theorem PySem.Challenge.cw_bearerwise_k02_pieces_holds : PySem.Challenge.rw_bearerwise_k02_pieces.Holds := by
  w_on; o_law; k_head; (case hw => w_witness2)
  k_fill
  refine My.walk (l := PySem.Challenge.rw_bearerwise_k02_pieces) rfl rfl (fun w h Y => PySem.W.kIn_of Y) ?F
  case F =>
    intro w mg fa h KX G hmg
    refine' My.all_mk KX G hmg ?z_len ?z_range ?z_abs ?z_int ?z_sum ?z_zip ?z_isinstance ?z_list ?z_bool ?z_MOST_BYTES ?z_MOST_MISSING ?z_DATA ?z_STATUS ?z_WHOLE ?z_END ?z_WITHIN ?z_BearerError ?z_NotValid ?a_BearerError___init ?i_BearerError___init ?l_BearerError___init ?c_BearerError___init ?k_BearerError___init ?a_field_bytes ?l_field_bytes ?c_field_bytes ?k_field_bytes ?a_pack ?l_pack ?c_pack ?k_pack ?a_unpack ?l_unpack ?c_unpack ?k_unpack ?a_short ?l_short ?c_short ?k_short ?a_u_has_offset ?l_u_has_offset ?c_u_has_offset ?k_u_has_offset ?a_u_data_widths ?l_u_data_widths ?c_u_data_widths ?k_u_data_widths ?a_u_status_head ?l_u_status_head ?c_u_status_head ?k_u_status_head ?a_u_range_widths ?l_u_range_widths ?c_u_range_widths ?k_u_range_widths ?a_data_piece ?l_data_piece ?c_data_piece ?k_data_piece ?a_status_piece ?l_status_piece ?c_status_piece ?k_status_piece ?a_status_bytes ?l_status_bytes ?c_status_bytes ?k_status_bytes ?a_u_read_data ?l_u_read_data ?c_u_read_data ?k_u_read_data ?a_u_read_status ?l_u_read_status ?c_u_read_status ?k_u_read_status ?a_read_piece ?l_read_piece ?c_read_piece ?k_read_piece ?a_u_law_two ?l_u_law_two ?c_u_law_two ?k_u_law_two ?a_u_law_tape ?l_u_law_tape ?c_u_law_tape ?k_u_law_tape ?a_u_law_at ?l_u_law_at ?c_u_law_at ?k_u_law_at ?a_u_law_bytes ?l_u_law_bytes ?c_u_law_bytes ?k_u_law_bytes ?a_u_law_data ?l_u_law_data ?c_u_law_data ?k_u_law_data ?a_u_law_status ?l_u_law_status ?c_u_law_status ?k_u_law_status ?a_u_law_many ?l_u_law_many ?c_u_law_many ?k_u_law_many ?a_u_law_bit ?l_u_law_bit ?c_u_law_bit ?k_u_law_bit ?a_u_law_field ?l_u_law_field ?c_u_law_field ?k_u_law_field ?a_u_law_read ?l_u_law_read ?c_u_law_read ?k_u_law_read ?a_u_law_refused ?l_u_law_refused ?c_u_law_refused ?k_u_law_refused ?a_u_law_bent ?l_u_law_bent ?c_u_law_bent ?k_u_law_bent ?a_law ?l_law ?c_law ?k_law ?xL_BearerError ?xB_BearerError ?sa_BearerError ?ex_BearerError ?ty_BearerError ?kC_BearerError ?ii_BearerError ?ti_BearerError ?ga_BearerError ?gg_BearerError ?hd_BearerError ?hc_BearerError ?mo_BearerError ?ic_BearerError ?sb_BearerError_BearerError ?sb_BearerError_NotValid ?xL_NotValid ?xB_NotValid ?sa_NotValid ?ex_NotValid ?ty_NotValid ?kC_NotValid ?ii_NotValid ?ti_NotValid ?ga_NotValid ?gg_NotValid ?hd_NotValid ?hc_NotValid ?mo_NotValid ?ic_NotValid ?sb_NotValid_BearerError ?sb_NotValid_NotValid ?sn_get ?tk_get
    (case z_len => k_is)
    (case z_range => k_is)
    (case z_abs => k_is)
    (case z_int => k_is)
    (case z_sum => k_is)
    (case z_zip => k_is)
    (case z_isinstance => k_is)
    (case z_list => k_is)
    (case z_bool => k_is)
    (case z_MOST_BYTES => k_is)
    (case z_MOST_MISSING => k_is)
    (case z_DATA => k_is)
    (case z_STATUS => k_is)
    (case z_WHOLE => k_is)
    (case z_END => k_is)
    (case z_WITHIN => k_is)
    (case z_BearerError => k_is)
    (case z_NotValid => k_is)
    (case a_BearerError___init => k_is)
    (case i_BearerError___init => k_is)
    (case l_BearerError___init => k_is)
    (case c_BearerError___init => k_is)
    (case k_BearerError___init => k_is)
    (case a_field_bytes => k_is)
    (case l_field_bytes => k_is)
    (case c_field_bytes => k_is)
    (case k_field_bytes => k_is)
    (case a_pack => k_is)
    (case l_pack => k_is)
    (case c_pack => k_is)
    (case k_pack => k_is)
    (case a_unpack => k_is)
    (case l_unpack => k_is)
    (case c_unpack => k_is)
    (case k_unpack => k_is)
    (case a_short => k_is)
    (case l_short => k_is)
    (case c_short => k_is)
    (case k_short => k_is)
    (case a_u_has_offset => k_is)
    (case l_u_has_offset => k_is)
    (case c_u_has_offset => k_is)
    (case k_u_has_offset => k_is)
    (case a_u_data_widths => k_is)
    (case l_u_data_widths => k_is)
    (case c_u_data_widths => k_is)
    (case k_u_data_widths => k_is)
    (case a_u_status_head => k_is)
    (case l_u_status_head => k_is)
    (case c_u_status_head => k_is)
    (case k_u_status_head => k_is)
    (case a_u_range_widths => k_is)
    (case l_u_range_widths => k_is)
    (case c_u_range_widths => k_is)
    (case k_u_range_widths => k_is)
    (case a_data_piece => k_is)
    (case l_data_piece => k_is)
    (case c_data_piece => k_is)
    (case k_data_piece => k_is)
    (case a_status_piece => k_is)
    (case l_status_piece => k_is)
    (case c_status_piece => k_is)
    (case k_status_piece => k_is)
    (case a_status_bytes => k_is)
    (case l_status_bytes => k_is)
    (case c_status_bytes => k_is)
    (case k_status_bytes => k_is)
    (case a_u_read_data => k_is)
    (case l_u_read_data => k_is)
    (case c_u_read_data => k_is)
    (case k_u_read_data => k_is)
    (case a_u_read_status => k_is)
    (case l_u_read_status => k_is)
    (case c_u_read_status => k_is)
    (case k_u_read_status => k_is)
    (case a_read_piece => k_is)
    (case l_read_piece => k_is)
    (case c_read_piece => k_is)
    (case k_read_piece => k_is)
    (case a_u_law_two => k_is)
    (case l_u_law_two => k_is)
    (case c_u_law_two => k_is)
    (case k_u_law_two => k_is)
    (case a_u_law_tape => k_is)
    (case l_u_law_tape => k_is)
    (case c_u_law_tape => k_is)
    (case k_u_law_tape => k_is)
    (case a_u_law_at => k_is)
    (case l_u_law_at => k_is)
    (case c_u_law_at => k_is)
    (case k_u_law_at => k_is)
    (case a_u_law_bytes => k_is)
    (case l_u_law_bytes => k_is)
    (case c_u_law_bytes => k_is)
    (case k_u_law_bytes => k_is)
    (case a_u_law_data => k_is)
    (case l_u_law_data => k_is)
    (case c_u_law_data => k_is)
    (case k_u_law_data => k_is)
    (case a_u_law_status => k_is)
    (case l_u_law_status => k_is)
    (case c_u_law_status => k_is)
    (case k_u_law_status => k_is)
    (case a_u_law_many => k_is)
    (case l_u_law_many => k_is)
    (case c_u_law_many => k_is)
    (case k_u_law_many => k_is)
    (case a_u_law_bit => k_is)
    (case l_u_law_bit => k_is)
    (case c_u_law_bit => k_is)
    (case k_u_law_bit => k_is)
    (case a_u_law_field => k_is)
    (case l_u_law_field => k_is)
    (case c_u_law_field => k_is)
    (case k_u_law_field => k_is)
    (case a_u_law_read => k_is)
    (case l_u_law_read => k_is)
    (case c_u_law_read => k_is)
    (case k_u_law_read => k_is)
    (case a_u_law_refused => k_is)
    (case l_u_law_refused => k_is)
    (case c_u_law_refused => k_is)
    (case k_u_law_refused => k_is)
    (case a_u_law_bent => k_is)
    (case l_u_law_bent => k_is)
    (case c_u_law_bent => k_is)
    (case k_u_law_bent => k_is)
    (case a_law => k_is)
    (case l_law => k_is)
    (case c_law => k_is)
    (case k_law => k_is)
    (case xL_BearerError => k_is)
    (case xB_BearerError => decide +kernel)
    (case sa_BearerError => k_is)
    (case ex_BearerError => k_is)
    (case ty_BearerError => k_is)
    (case kC_BearerError => k_is)
    (case ii_BearerError => k_is)
    (case ti_BearerError => k_is)
    (case ga_BearerError => k_is)
    (case gg_BearerError => k_is)
    (case hd_BearerError => k_is)
    (case hc_BearerError => k_is)
    (case mo_BearerError => k_is)
    (case ic_BearerError => k_is)
    (case sb_BearerError_BearerError => first | rfl | k_is)
    (case sb_BearerError_NotValid => first | rfl | k_is)
    (case xL_NotValid => k_is)
    (case xB_NotValid => decide +kernel)
    (case sa_NotValid => k_is)
    (case ex_NotValid => k_is)
    (case ty_NotValid => k_is)
    (case kC_NotValid => k_is)
    (case ii_NotValid => k_is)
    (case ti_NotValid => k_is)
    (case ga_NotValid => k_is)
    (case gg_NotValid => k_is)
    (case hd_NotValid => k_is)
    (case hc_NotValid => k_is)
    (case mo_NotValid => k_is)
    (case ic_NotValid => k_is)
    (case sb_NotValid_BearerError => first | rfl | k_is)
    (case sb_NotValid_NotValid => first | rfl | k_is)
    (case sn_get => k_is)
    (case tk_get => k_is)

import PyProof.Rows.All
import Wide.All
import OpenK.AllK
import Wide.FinOn
import HandS.ForMost
import HandS.ForExc
import HandS.IsInst
import HandS.ExcIs
import HandS.ExcInit
import HandS.Wide
import HandS.WideBits
import HandS.Zip
import HandS.Flow
import HandS.Flt
import HandS.Walk
import HandS.More
import HandS.Deep
import HandS.SetKeys
import HandS.SortKw
import HandS.Conv
import KE.KDictWalk
import HandS.Style
import HandS.SortInts
import PySem.Challenge.RW_bearerwise_k30_whole_stays
set_option Elab.async false
set_option linter.all false
set_option maxRecDepth 100000
set_option maxHeartbeats 4000000
namespace My
open PySem L2

/-! ### a def as the top has left it -/
structure DefAt (K : PySem.W.Frag) (mg : Str → Option Value) (x q : Str) (st : Stmt) (ps : List Str) (f : Addr) (fd : FuncData) : Prop where
  F : Fun K x q st f fd
  b : Binds K fd ps []
  m : mg x = some (.ref f)
structure MethAt (K : PySem.W.Frag) (C : Addr) (x q : Str) (st : Stmt) (ps : List Str) (f : Addr) (fd : FuncData) : Prop where
  F : Fun K x q st f fd
  b : Binds K fd ps []
  me : Meth K C x f

structure DefAt0 (K : PySem.W.Frag) (x q : Str) (st : Stmt) (ps : List Str) (f : Addr) (fd : FuncData) : Prop where
  F : Fun K x q st f fd
  b : Binds K fd ps []
structure ClsAt (K : PySem.W.Frag) (C f : Addr) : Prop where
  cl : Cls K C
  mk' : Mk K C f

/-! ### heaps -/
theorem same_upd {H : Hp} {p : Addr} {o : HO} (h : H p = none) : Same H (upd H p o) := fun b x e => by
  rw [upd_ne (ne_of_none e h)]
  exact e
theorem same_none {H H' : Hp} {p : Addr} (s : Same H H') (h : H' p = none) : H p = none := by
  cases e : H p with
  | none => rfl
  | some o =>
    rw [s _ _ e] at h
    cases h
/-- an object that H does not know may change -/
theorem same_mut {H H' : Hp} {p : Addr} {o : HO} (e : Same H H') (h : H p = none) : Same H (upd H' p o) := fun b x hb => by
  rw [upd_ne (ne_of_none hb h)]
  exact e b x hb
theorem sq_of {K : PySem.W.Frag} {H : Hp} {a : Addr} {xs : List V} (h : H a = some (.lst xs)) : SqL K H a xs := Or.inl (Or.inl h)
theorem st_of {K : PySem.W.Frag} {H : Hp} {a : Addr} {xs : List V} (h : H a = some (.tup xs)) : SqT K H a xs := Or.inl (Or.inl h)
theorem Same.sqt {K : PySem.W.Frag} {H H' : Hp} {a : Addr} {xs : List V} (e : Same H H') (h : SqT K H a xs) : SqT K H' a xs := by
  rcases h with (h | ⟨o, h⟩) | h
  · exact .inl (.inl (e _ _ h))
  · exact .inl (.inr ⟨o, e _ _ h⟩)
  · exact .inr h
theorem hp_step {H H' : Hp} {a : Addr} {o : HO} (h : H a = some o) (s : Same H H') : H' a = some o := s _ _ h
theorem sq_step {K : PySem.W.Frag} {H H' : Hp} {a : Addr} {xs : List V} (h : SqL K H a xs) (s : Same H H') : SqL K H' a xs := s.seq h
theorem sqt_step {K : PySem.W.Frag} {H H' : Hp} {a : Addr} {xs : List V} (h : SqT K H a xs) (s : Same H H') : SqT K H' a xs := Same.sqt s h
theorem sz {n : Nat} (h : n ≤ 1000000) : n ≤ sizeLine := Nat.le_trans h (by rw [sizeLine_eq]; decide)
theorem szl {n : Nat} (h : n < 1000000) : n < sizeLine := Nat.lt_of_lt_of_le h (by rw [sizeLine_eq]; decide)

/-- the promises' shapes: a value and the heap as it was; a value; a new list -/
def RV (v : V) (H : Hp) (Q : VK) : Prop := ∀ H', Same H H' → Q v H'
def RL (xs : List V) (H : Hp) (Q : VK) : Prop := ∀ p H', H p = none → Same H H' → H' p = some (.lst xs) → Q (.ref p) H'
def RT (xs : List V) (H : Hp) (Q : VK) : Prop := ∀ p H', H p = none → Same H H' → H' p = some (.tup xs) → Q (.ref p) H'

/-! ### stops for the walk: a proposition that no tuple opens -/
inductive Stop (p : Prop) : Prop where
  | a (h : p) : Stop p
  | b (h : p) : Stop p
theorem Stop.un {p : Prop} (h : Stop p) : p := by cases h <;> assumption

/-! ### an exception of an own class whose __init__ takes nothing and stores nothing: X() -/
def spInit0 : Sp := fun vs H Q _ => ∃ a, vs = [.ref a] ∧ Q .non H
structure PlainExc (P : Program) (w : World) (K : PySem.W.Frag) (mg : Str → Option Value) (base : Heap) (x : Str) (C fI : Addr) (fdI : FuncData) : Prop where
  T : OexC K C
  iC : PySem.W.findIn K (.ref C) "__init__" = some (some (.ref fI))
  tI : PySem.W.typeIn K (.ref fI) = some (.type "function")
  F1 : FnOk P w K mg base CX0 1 fI fdI ["self"] spInit0
  bI : Binds K fdI ["self"] []
  m : mg x = some (.ref C)
open PySem.Spec PyProof.Rows in
theorem mk_endN {X : Cx} {pins : List (Addr × Obj)} {σ : L2.St} {H1 : Hp} {Q : XK} {hp hp2 h2 : Heap} {g1 g2 : Array GenState} {d1 d2 : Drawn} {t1 t2 : Nat} {os1 os2 : OsState} {a C : Addr} (T : Raises X (.ref C)) (I1 : Inv X pins σ H1 ⟨hp, g1, d1, t1, os1⟩)
    (ha : hp.objs.size ≤ a) (k : ∀ b o, hp.get? b = some o → hp2.get? b = some o) (un : Un (frs X.stack) [] (upd H1 a (exo a C none)) (upd H1 a (exo a C none)) hp2 h2) (hok : HOk X.prog X.w (upd H1 a (exo a C none)) h2) (ho : os2 = os1) (hb : AllBare g2)
    (q : Q (.ref C) none H1) : MkP X pins σ Q (.ref a) ⟨h2, g2, d2, t2, os2⟩ := by
  obtain ⟨t0, hoe⟩ := exo_at hok upd_same
  have hn : H1 a = none := I1.hok.fresh ha
  obtain ⟨G, g1', g2'⟩ := restrict h2 fun b => decide (b ≠ a)
  have gk : ∀ b, b ≠ a → G.get? b = h2.get? b := fun b hb => g1' b (decide_eq_true hb)
  have ge : G.get? a = none := g2' a (by simp)
  have nha : ∀ {b : Addr} {o : Obj}, hp.get? b = some o → b ≠ a := fun {b o} z => Nat.ne_of_lt (Nat.lt_of_lt_of_le (Heap.lt_size z) ha)
  have up : ∀ {b : Addr}, b ≠ a → H1 b = none → upd H1 a (exo a C none) b = none := fun {b} hb n => by rw [upd_ne hb]; exact n
  have U : Un (frs X.stack) [] H1 H1 hp G := {
    keep := fun b o z n hf hx => by
      rw [gk b (nha z)]
      exact un.keep b o (k b o z) (up (nha z) n) hf hx
    slot := fun b o z n hf hx => by
      rw [gk b (nha z)]
      exact un.slot b o (k b o z) (up (nha z) n) hf hx
    free := fun b o z n hx => n
    there := fun b o z hx => by
      rw [gk b (nha z)]
      exact un.there b o (k b o z) hx
    tups := fun b xs z => z
    frzs := fun b o v z => z
    tbls := fun b ps z => ⟨#[], by rw [z]; simp⟩ }
  have hok3 : HOk X.prog X.w H1 G := fun b o z => by
    have hba : b ≠ a := fun e => by
      rw [e, hn] at z
      cases z
    have z2 : upd H1 a (exo a C none) b = some o := by rw [upd_ne hba]; exact z
    have noa : ∀ {c : Addr} {u : HO}, H1 c = some u → c ≠ a := fun {c u} hc e => by
      rw [e, hn] at hc
      cases hc
    exact (hok b o z2).stay (fun c v hc y => by
        have hca : c ≠ a := by
          rcases hc with hc | hc
          · rw [hc]
            exact hba
          · exact fun e => by
              rw [e, upd_same] at hc
              exact exo_own (Option.some.inj hc)
        rw [gk c hca]
        exact y)
      (fun c hc => by
        by_cases e : c = a
        · rw [e, upd_same] at hc
          exact absurd (Option.some.inj hc) exo_own
        · rw [upd_ne e] at hc
          exact hc)
      (fun c xs hc => by
        by_cases e : c = a
        · rw [e, upd_same] at hc
          exact absurd (Option.some.inj hc) exo_tup
        · rw [upd_ne e] at hc
          exact hc)
  have J : Inv X pins σ H1 ⟨G, g2, d2, t2, os2⟩ := I1.call' (ch := []) ho U hok3 hb (fun b z => absurd z (by simp))
  refine ⟨a, _, _, ⟨G, g2, d2, t2, os2⟩, _, .ref C, none, rfl, J, fun b o z => ?_, ge, hoe, ⟨rfl, rfl⟩, rfl, rfl, hn, rfl, hb, T, q⟩
  by_cases hba : b = a
  · rw [hba, ge] at z
    cases z
  · exact (gk b hba).symm.trans z
open PySem.Spec PyProof.Rows in
theorem pmk_plain {X : Cx} {x : Str} {C fI : Addr} {fdI : FuncData} {p pos : Pos} (T : PlainExc X.prog X.w X.K X.mg X.base x C fI fdI) (hr : Room 2 X.A) (hg : Gl X x) (hdb : (x == ("__debug__" : Str)) = false := by decide) :
    PMk X (.Call (.Name x p) [] [] pos) (fun _ H Q => Q (.ref C) none H) := by
  intro pins s σ H Q I h
  obtain ⟨nm, q, N, bs, bm, sn, sub, ab, col, dd, k0, k1, k2, k3, k5, hC, hbm⟩ := T.T.cls
  refine wpAny_Call_Name_kw (ld_glob I hg T.m ?_ hdb)
  refine PySem.W.callWith_K0 I.kIn T.T.kC ?_
  show wpAny _ _ (call (.ref C) []) _ _ _
  obtain ⟨hp, g, dr, tk, os⟩ := s
  have hsz : hp.objs.size ≤ hp.objs.size + 1 := Nat.le_succ _
  have hn : H (hp.objs.size + 1) = none := I.hok.fresh hsz
  have kk : ∀ b o, hp.get? b = some o → ((hp.push (PySem.W.kdv_tup [])).push (PySem.HandSPX.excO C hp.objs.size)).get? b = some o := fun b o e => Heap.get?_push_of_some _ (Heap.get?_push_of_some _ e)
  have hget : ((hp.push (PySem.W.kdv_tup [])).push (PySem.HandSPX.excO C hp.objs.size)).get? (hp.objs.size + 1) = some (PySem.HandSPX.excO C hp.objs.size) := by heap_get
  have I2 : Inv X pins σ (upd H (hp.objs.size + 1) (exo (hp.objs.size + 1) C none)) ⟨(hp.push (PySem.W.kdv_tup [])).push (PySem.HandSPX.excO C hp.objs.size), g, dr, tk, os⟩ :=
    I.laid (t' := tk) (a := hp.objs.size + 1) (o := exo (hp.objs.size + 1) C none) (h' := (hp.push (PySem.W.kdv_tup [])).push (PySem.HandSPX.excO C hp.objs.size)) kk hsz (exo_ok hget)
  have r2 : Vals [V.ref (hp.objs.size + 1)] [Value.ref (hp.objs.size + 1)] := .cons rfl .nil
  have hq : spInit0 [V.ref (hp.objs.size + 1)] (upd H (hp.objs.size + 1) (exo (hp.objs.size + 1) C none)) (fun v H2 => v = .non ∧ H2 = upd H (hp.objs.size + 1) (exo (hp.objs.size + 1) C none)) (fun _ _ _ => False) := ⟨_, rfl, rfl, rfl⟩
  refine wpAny_call (PySem.HandSPX.call_own PySem.F.excBase_ValueError (fun Y => PySem.HandSPX.refsVE_contains Y bm hbm) (I.kIn _ _ hC) (PySem.W.looks_findIn I.kIn T.iC) (fun self => PySem.W.bind_fn I.kIn self T.tI) (Nat.zero_le _)
    (codeAny_mono (T.F1.run _ X.stack _ _ ⟨[Value.ref (hp.objs.size + 1)], []⟩ [Value.ref (hp.objs.size + 1)] _ _ (fun _ _ _ => False) (hr.make C [] []) (I2.env0.make C [] []) (T.bI _ [Value.ref (hp.objs.size + 1)] I2.kIn rfl) r2 hq) fun r s' hq' => ?_))
  cases r with
  | error er => exact hq'.elim
  | ok fl =>
    cases fl with
    | ret u =>
      obtain ⟨v, H2, os2, bare2, un2, hok2, rv, ev, eH⟩ := hq'
      subst ev
      subst eH
      obtain ⟨h2, g2, d2, t2, os'⟩ := s'
      exact ⟨rv, mk_endN (raises_own T.T.exC T.T.tyC) I hsz kk un2 hok2 os2 bare2 h⟩
    | next => exact False.elim hq'
    | brk => exact False.elim hq'
    | cont => exact False.elim hq'

theorem ite_t {c A B : Prop} [Decidable c] (hc : c) (h : A) : if decide c = true then A else B := by
  rw [decide_eq_true hc]
  exact iteT h
theorem ite_f {c A B : Prop} [Decidable c] (hc : ¬ c) (h : B) : if decide c = true then A else B := by
  rw [decide_eq_false hc]
  exact iteF h
theorem ite_nt {c A B : Prop} [Decidable c] (hc : ¬ c) (h : A) : if (!decide c) = true then A else B := by
  rw [decide_eq_false hc]
  exact iteT h
theorem ite_nf {c A B : Prop} [Decidable c] (hc : c) (h : B) : if (!decide c) = true then A else B := by
  rw [decide_eq_true hc]
  exact iteF h
theorem ite_by {c A B : Prop} [Decidable c] (h1 : c → A) (h2 : ¬ c → B) : if decide c = true then A else B := by
  by_cases h : c
  · exact ite_t h (h1 h)
  · exact ite_f h (h2 h)
theorem ite_nby {c A B : Prop} [Decidable c] (h1 : ¬ c → A) (h2 : c → B) : if (!decide c) = true then A else B := by
  by_cases h : c
  · exact ite_nf h (h2 h)
  · exact ite_nt h (h1 h)
/-- an item of the ints -/
theorem at_int {ns : List Int} {k : Int} (h0 : 0 ≤ k) (h1 : k < (ns.length : Int)) : atI (ns.map V.int) k = some (V.int (ns.getD k.toNat 0)) := by
  refine at_of (j := k.toNat) (by omega) ?_
  have h2 : k.toNat < ns.length := by omega
  rw [List.getElem?_map, List.getElem?_eq_getElem h2, List.getD_eq_getElem?_getD, List.getElem?_eq_getElem h2]
  rfl
theorem two_pos1 (k : Nat) : (0 : Int) < 1 * 2 ^ k := by
  rw [Int.one_mul]
  exact Int.pow_pos (by decide)
theorem q_int {Q : VK} {x y : Int} {H : Hp} (q : Q (.int x) H) (e : x = y) : Q (.int y) H := e ▸ q
theorem q_bl {Q : VK} {x y : Bool} {H : Hp} (q : Q (.bl x) H) (e : x = y) : Q (.bl y) H := e ▸ q

/-! ### readings that stop the walk where a new object comes: told by what holds of the new heap -/
/-- the closure of a reading: some wish that it keeps, and that is enough -/
def cTE (t : TE) : TE := fun σ H Q => ∃ R : VK, t σ H R ∧ ∀ v H', R v H' → Q v H'
def cTA (t : TA) : TA := fun σ H Q => ∃ R : List V → Hp → Prop, t σ H R ∧ ∀ v H', R v H' → Q v H'
def cTT (t : TT) : TT := fun σ H Q => ∃ R : Bool → Hp → Prop, t σ H R ∧ ∀ v H', R v H' → Q v H'
section
variable {X : Cx} {e : Expr} {es : List Expr} {te : TE} {ta : TA} {tt : TT} {pos : Pos}
theorem pe_c (h : PE X e te) : PE X e (cTE te) := ⟨fun pins s σ H Q I ⟨R, h1, h2⟩ => thn (h.run pins s σ H R I h1) fun u s1 ⟨v, H1, I1, r, q⟩ => ⟨v, H1, I1, r, h2 _ _ q⟩⟩
theorem pa_c (h : PA X es ta) : PA X es (cTA ta) := ⟨fun pos pins s σ H Q I ⟨R, h1, h2⟩ => thn (h.run pos pins s σ H R I h1) fun u s1 ⟨v, H1, I1, r, q⟩ => ⟨v, H1, I1, r, h2 _ _ q⟩⟩
theorem pt_c (h : PT X e tt) : PT X e (cTT tt) := ⟨fun pins s σ H Q I ⟨R, h1, h2⟩ => thn (h.run pins s σ H R I h1) fun u s1 ⟨H1, I1, q⟩ => ⟨H1, I1, h2 _ _ q⟩⟩
theorem pe_weak {te' : TE} (h : PE X e te) (w : ∀ σ H Q, te' σ H Q → te σ H Q) : PE X e te' := ⟨fun pins s σ H Q I q => h.run pins s σ H Q I (w σ H Q q)⟩
theorem ps_weak {st : Stmt} {t t' : TS} (h : PS X st t) (w : ∀ D σ H, t' D σ H → t D σ H) : PS X st t' := ⟨fun pins s σ H D I q => h.run pins s σ H D I (w D σ H q)⟩
end
/-- what is wanted of a new object -/
def NewO (o : HO) (H : Hp) (Q : VK) : Prop := ∀ p H', H p = none → Same H H' → H' p = some o → Q (.ref p) H'
theorem NewO.go {o : HO} {H : Hp} {Q : VK} (h : NewO o H Q) : ∀ p, H p = none → Q (.ref p) (upd H p o) := fun p hp => h p _ hp (same_upd hp) upd_same
@[irreducible] def mTup (t : TA) : TE := fun σ H Q => t σ H fun xs H1 => xs.length ≤ 1000 ∧ NewO (.tup xs) H1 Q
@[irreducible] def mLst (t : TA) : TE := fun σ H Q => t σ H fun xs H1 => xs.length ≤ 1000 ∧ NewO (.lst xs) H1 Q
theorem rd_tup {t : TA} {σ : L2.St} {H : Hp} {Q : VK} (h : t σ H fun xs H1 => xs.length ≤ 1000 ∧ NewO (.tup xs) H1 Q) : mTup t σ H Q := by
  unfold mTup
  exact h
theorem rd_lst {t : TA} {σ : L2.St} {H : Hp} {Q : VK} (h : t σ H fun xs H1 => xs.length ≤ 1000 ∧ NewO (.lst xs) H1 Q) : mLst t σ H Q := by
  unfold mLst
  exact h
@[irreducible] def mCat (K : PySem.W.Frag) : R2 := fun x y H Q => ∃ l b xs zs, x = .ref l ∧ y = .ref b ∧ H l = some (.lst xs) ∧ H b = some (.lst zs) ∧ xs.length + zs.length ≤ 1000000 ∧ NewO (.lst (xs ++ zs)) H Q
theorem rd_cat {K : PySem.W.Frag} {l b : Addr} {xs zs : List V} {H : Hp} {Q : VK} (h1 : H l = some (.lst xs)) (h2 : H b = some (.lst zs)) (hz : xs.length + zs.length ≤ 1000000) (h : NewO (.lst (xs ++ zs)) H Q) : mCat K (.ref l) (.ref b) H Q := by
  unfold mCat
  exact ⟨l, b, xs, zs, rfl, rfl, h1, h2, hz, h⟩
@[irreducible] def mRep : R2 := fun x y H Q => ∃ l k xs, x = .ref l ∧ y = .int k ∧ H l = some (.lst xs) ∧ 0 ≤ k ∧ k ≤ 100000 ∧ xs.length * k.toNat ≤ 1000000 ∧ NewO (.lst (List.replicate k.toNat xs).flatten) H Q
@[irreducible] def mSlL (K : PySem.W.Frag) : V → Option Int → Option Int → Hp → VK → Prop := fun x lo hi H Q => ∃ a xs, x = .ref a ∧ SqL K H a xs ∧ NewO (.lst (cutV xs lo hi)) H Q
theorem rd_sl {K : PySem.W.Frag} {a : Addr} {xs : List V} {lo hi : Option Int} {H : Hp} {Q : VK} (h1 : SqL K H a xs) (h : NewO (.lst (cutV xs lo hi)) H Q) : mSlL K (.ref a) lo hi H Q := by
  unfold mSlL
  exact ⟨a, xs, rfl, h1, h⟩
@[irreducible] def mListOf (K : PySem.W.Frag) : List V → Hp → VK → Prop := fun xs H Q => ∃ p ys, xs = [.ref p] ∧ (SqL K H p ys ∨ SqT K H p ys) ∧ NewO (.lst ys) H Q
theorem rd_list {K : PySem.W.Frag} {a : Addr} {xs : List V} {H : Hp} {Q : VK} (h1 : SqL K H a xs) (h : NewO (.lst xs) H Q) : mListOf K [.ref a] H Q := by
  unfold mListOf
  exact ⟨a, xs, rfl, .inl h1, h⟩
/-- the elements of a comprehension, one by one: what each gives, the heap grown at most -/
def Elt (te : TE) (σ : L2.St) (H : Hp) (y : V) : Prop := ∀ H', Same H H' → te σ H' fun v H'' => v = y ∧ Same H' H''
@[irreducible] def mLcR1 (ta : TA) (j : Nat) (te : TE) (vs : List Nat) : TE := fun σ H Q => ta σ H fun ws H1 => ∃ (n : Int) (f : Nat → V), ws = [.int n] ∧ (-100000 ≤ n ∧ n ≤ 100000) ∧ (∀ i, i < n.toNat → Elt te ((wipe σ vs).set j (some (.int (i : Nat)))) H1 (f i)) ∧ NewO (.lst ((List.range n.toNat).map f)) H1 Q
theorem rd_lcR1 {ta : TA} {j : Nat} {te : TE} {vs : List Nat} {σ : L2.St} {H : Hp} {Q : VK} (h : ta σ H fun ws H1 => ∃ (n : Int) (f : Nat → V), ws = [.int n] ∧ (-100000 ≤ n ∧ n ≤ 100000) ∧ (∀ i, i < n.toNat → Elt te ((wipe σ vs).set j (some (.int (i : Nat)))) H1 (f i)) ∧ NewO (.lst ((List.range n.toNat).map f)) H1 Q) : mLcR1 ta j te vs σ H Q := by
  unfold mLcR1
  exact h
@[irreducible] def mLcL (K : PySem.W.Frag) (tl : TE) (j : Nat) (te : TE) (vs : List Nat) : TE := fun σ H Q => tl σ H fun x H1 => ∃ (a : Addr) (xs : List V) (f : V → V), x = .ref a ∧ SqL K H1 a xs ∧ xs.length ≤ 100000 ∧ (∀ y, y ∈ xs → Elt te ((wipe σ vs).set j (some y)) H1 (f y)) ∧ NewO (.lst (xs.map f)) H1 Q
theorem rd_lcL {K : PySem.W.Frag} {tl : TE} {j : Nat} {te : TE} {vs : List Nat} {σ : L2.St} {H : Hp} {Q : VK} (h : tl σ H fun x H1 => ∃ (a : Addr) (xs : List V) (f : V → V), x = .ref a ∧ SqL K H1 a xs ∧ xs.length ≤ 100000 ∧ (∀ y, y ∈ xs → Elt te ((wipe σ vs).set j (some y)) H1 (f y)) ∧ NewO (.lst (xs.map f)) H1 Q) : mLcL K tl j te vs σ H Q := by
  unfold mLcL
  exact h
theorem wipe_set {σ : L2.St} {vs : List Nat} {j : Nat} {x : Option V} (hj : vs = [j]) : wipe ((wipe σ vs).set j x) vs = wipe σ vs := by
  subst hj
  show ((σ.set j none).set j x).set j none = σ.set j none
  rw [List.set_set, List.set_set]
section
variable {X : Cx} {e : Expr} {es : List Expr} {te : TE} {t ta : TA} {tt : TT} {pos : Pos}
theorem pe_tupM {x1} (h : PA X es t) : PE X (.Tuple es x1 pos) (mTup t) := pe_weak (pe_tup (pa_c h)) fun σ H Q q => by
  unfold mTup at q
  exact ⟨_, q, fun xs H1 r => ⟨sz (Nat.le_trans r.1 (by decide)), r.2.go⟩⟩
theorem pe_lstM (h : PA X es t) : PE X (.List es pos) (mLst t) := pe_weak (pe_lst (pa_c h)) fun σ H Q q => by
  unfold mLst at q
  exact ⟨_, q, fun xs H1 r => ⟨sz (Nat.le_trans r.1 (by decide)), r.2.go⟩⟩
theorem op_catM : OpR X (binaryOp .Add) (mCat X.K) := fun pins s σ H x y v u Q I rx ry q => op_cat pins s σ H x y v u Q I rx ry (by
  unfold mCat at q
  obtain ⟨l, b, xs, zs, e1, e2, h1, h2, hz, h⟩ := q
  exact ⟨l, b, xs, zs, e1, e2, h1, h2, sz hz, h.go⟩)
theorem sl_listM : SlR X (mSlL X.K) := fun pins s σ H x v vl vu lo hi sl Q I rx hs pl pu q => sl_list pins s σ H x v vl vu lo hi sl Q I rx hs pl pu (by
  unfold mSlL at q
  obtain ⟨a, xs, e1, h1, h⟩ := q
  exact ⟨a, xs, e1, h1, h.go⟩)
theorem call_listM : CallR X (.type "list") (mListOf X.K) := fun pins s σ H xs us Q I r q => call_list_of pins s σ H xs us Q I r (by
  unfold mListOf at q
  obtain ⟨a, xs, e1, h1, h⟩ := q
  exact ⟨a, xs, e1, h1, h.go⟩)
/-- [e for x in range(n)] -/
theorem lcR1_of {ta : TA} {j : Nat} {te : TE} {vs : List Nat} {σ : L2.St} {H : Hp} {Q : VK} (hj : vs = [j]) (q : mLcR1 ta j te vs σ H Q) : tLc (iRng1 (cTA ta)) (gName j) tYes (cTE te) vs σ H Q := by
  unfold mLcR1 at q
  refine ⟨_, q, fun ws H1 r => ?_⟩
  obtain ⟨n, f, rfl, hn, he, hq⟩ := r
  obtain ⟨hn0, hn⟩ := hn
  have big : (2 : Int) ^ 62 = 4611686018427387904 := by decide
  refine ⟨n, rfl, by omega, by omega, fun D hD => ?_⟩
  refine lc_range (lo := 0) (n := n.toNat) (fun i H' => Same H1 H' ∧ H' D = some (.lst ((List.range i).map f))) ⟨same_upd hD, upd_same⟩ (fun i H' hi p => ⟨wipe_set hj, ?_⟩) fun H' p => hq D H' hD p.1 p.2
  show cTE te ((wipe σ vs).set j (some (.int (0 + (i : Int))))) H' _
  rw [Int.zero_add]
  refine ⟨_, he i hi H' p.1, fun y H'' r => ?_⟩
  obtain ⟨rfl, s2⟩ := r
  refine ⟨_, s2 _ _ p.2, szl (by rw [List.length_map, List.length_range]; omega), same_mut (p.1.trans s2) hD, ?_⟩
  rw [upd_same, List.range_succ, List.map_append]
  rfl
theorem take_snoc {α : Type} {l : List α} {i : Nat} {x : α} (h : l[i]? = some x) : l.take (i + 1) = l.take i ++ [x] := by
  rw [List.take_add_one, h]
  rfl
/-- [e for x in xs] -/
theorem lcL_of {K : PySem.W.Frag} {tl : TE} {j : Nat} {te : TE} {vs : List Nat} {σ : L2.St} {H : Hp} {Q : VK} (hj : vs = [j]) (q : mLcL K tl j te vs σ H Q) : tLc (iList K (cTE tl)) (gName j) tYes (cTE te) vs σ H Q := by
  unfold mLcL at q
  refine ⟨_, q, fun x H1 r => ?_⟩
  obtain ⟨a, xs, f, rfl, hx, hn, he, hq⟩ := r
  refine ⟨a, rfl, ⟨xs, hx⟩, fun D hD => ?_⟩
  refine lc_list (xs := xs) (fun i H' => Same H1 H' ∧ H' D = some (.lst ((xs.take i).map f))) ⟨same_upd hD, upd_same⟩ (fun i H' _ p => p.1.seq hx) (fun i y H' hi p => ⟨wipe_set hj, ?_⟩) fun H' p => hq D H' hD p.1 (by rw [p.2, List.take_length])
  have hy : y ∈ xs := List.mem_of_getElem? hi
  have hl : i < xs.length := (List.getElem?_eq_some_iff.mp hi).1
  show cTE te ((wipe σ vs).set j (some y)) H' _
  refine ⟨_, he y hy H' p.1, fun z H'' r => ?_⟩
  obtain ⟨rfl, s2⟩ := r
  refine ⟨_, s2 _ _ p.2, szl (by rw [List.length_map, List.length_take]; omega), same_mut (p.1.trans s2) hD, ?_⟩
  rw [upd_same, take_snoc hi, List.map_append]
  rfl
theorem pe_lcR1 {elt : Expr} {scope : Scope} {j : Nat} {x : Str} {a : Expr} {p p2 xpos : Pos} (hc : X.calm = true) (hN : X.N.Nodup) (hg : Gl X "range") (hm : X.mg "range" = none) (ha : PA X [a] ta) (ok : BlkOk X.N X.env.scope scope [(x, j)])
    (hgt : ∀ (s : Shared) (H : Hp) (C : Addr) (cl : List (Str × Addr)) (fp : List Addr), PG (X.blk s H scope (compEnvC scope cl C X.env) fp) (.Name x xpos) (gName j))
    (he : ∀ (s : Shared) (H : Hp) (C : Addr) (cl : List (Str × Addr)) (fp : List Addr), PE (X.blk s H scope (compEnvC scope cl C X.env) fp) elt te)
    (hs : starEach [a] X.env = [(false, eval a X.env)] := by rfl) (hs2 : ∀ y, foldedSetIterable (.Call (.Name "range" p) [a] [] p2) X.env y = pure y := by intro _; rfl) :
    PE X (.ListComp elt [⟨.Name x xpos, .Call (.Name "range" p) [a] [] p2, [], 0⟩] scope pos) (mLcR1 ta j te [j]) :=
  pe_weak (pe_lc hc hN (pi_range1 hg hm (pa_c ha) hs) ok hgt (fun _ _ _ _ _ => pts_nil) (fun s H C cl fp => pe_c (he s H C cl fp)) hs2) fun _ _ _ q => lcR1_of rfl q
theorem pe_lcL {elt it : Expr} {scope : Scope} {j : Nat} {x : Str} {xpos : Pos} (hc : X.calm = true) (hN : X.N.Nodup) {tl : TE} (ha : PE X it tl) (ok : BlkOk X.N X.env.scope scope [(x, j)])
    (hgt : ∀ (s : Shared) (H : Hp) (C : Addr) (cl : List (Str × Addr)) (fp : List Addr), PG (X.blk s H scope (compEnvC scope cl C X.env) fp) (.Name x xpos) (gName j))
    (he : ∀ (s : Shared) (H : Hp) (C : Addr) (cl : List (Str × Addr)) (fp : List Addr), PE (X.blk s H scope (compEnvC scope cl C X.env) fp) elt te) (hs2 : ∀ y, foldedSetIterable it X.env y = pure y := by intro _; rfl) :
    PE X (.ListComp elt [⟨.Name x xpos, it, [], 0⟩] scope pos) (mLcL X.K tl j te [j]) :=
  pe_weak (pe_lc hc hN (pi_list (pe_c ha)) ok hgt (fun _ _ _ _ _ => pts_nil) (fun s H C cl fp => pe_c (he s H C cl fp)) hs2) fun _ _ _ q => lcL_of rfl q
theorem ps_setLcR1 {i : Nat} {y : Str} {py spos : Pos} {elt : Expr} {scope : Scope} {j : Nat} {x : Str} {a : Expr} {p p2 xpos : Pos} (hc : X.calm = true) (hN : X.N.Nodup) (hy : X.N[i]? = some y) (hyl : X.env.scope.names.lookup y = some .local)
    (hsw : swapsWith (.ListComp elt [⟨.Name x xpos, .Call (.Name "range" p) [a] [] p2, [], 0⟩] scope pos) (some (.Name y py)) spos.line X.env = pure true) (hg : Gl X "range") (hm : X.mg "range" = none) (ha : PA X [a] ta) (ok : BlkOk X.N X.env.scope scope [(x, j)])
    (hgt : ∀ (s : Shared) (H : Hp) (C : Addr) (cl : List (Str × Addr)) (fp : List Addr), PG (X.blk s H scope (compEnvC scope cl C X.env) fp) (.Name x xpos) (gName j))
    (he : ∀ (s : Shared) (H : Hp) (C : Addr) (cl : List (Str × Addr)) (fp : List Addr), PE (X.blk s H scope (compEnvC scope cl C X.env) fp) elt te)
    (hs : starEach [a] X.env = [(false, eval a X.env)] := by rfl) (hs2 : ∀ y, foldedSetIterable (.Call (.Name "range" p) [a] [] p2) X.env y = pure y := by intro _; rfl) :
    PS X (.Assign [.Name y py] (.ListComp elt [⟨.Name x xpos, .Call (.Name "range" p) [a] [] p2, [], 0⟩] scope pos) spos) (tAsg (mLcR1 ta j te [j]) (gName i)) :=
  ps_weak (ps_setLc hc hN hy hyl hsw (pi_range1 hg hm (pa_c ha) hs) ok hgt (fun _ _ _ _ _ => pts_nil) (fun s H C cl fp => pe_c (he s H C cl fp)) hs2) fun _ _ _ q => lcR1_of rfl q
theorem ps_setLcL {i : Nat} {y : Str} {py spos : Pos} {elt it : Expr} {scope : Scope} {j : Nat} {x : Str} {xpos : Pos} {tl : TE} (hc : X.calm = true) (hN : X.N.Nodup) (hy : X.N[i]? = some y) (hyl : X.env.scope.names.lookup y = some .local)
    (hsw : swapsWith (.ListComp elt [⟨.Name x xpos, it, [], 0⟩] scope pos) (some (.Name y py)) spos.line X.env = pure true) (ha : PE X it tl) (ok : BlkOk X.N X.env.scope scope [(x, j)])
    (hgt : ∀ (s : Shared) (H : Hp) (C : Addr) (cl : List (Str × Addr)) (fp : List Addr), PG (X.blk s H scope (compEnvC scope cl C X.env) fp) (.Name x xpos) (gName j))
    (he : ∀ (s : Shared) (H : Hp) (C : Addr) (cl : List (Str × Addr)) (fp : List Addr), PE (X.blk s H scope (compEnvC scope cl C X.env) fp) elt te) (hs2 : ∀ y, foldedSetIterable it X.env y = pure y := by intro _; rfl) :
    PS X (.Assign [.Name y py] (.ListComp elt [⟨.Name x xpos, it, [], 0⟩] scope pos) spos) (tAsg (mLcL X.K tl j te [j]) (gName i)) :=
  ps_weak (ps_setLc hc hN hy hyl hsw (pi_list (pe_c ha)) ok hgt (fun _ _ _ _ _ => pts_nil) (fun s H C cl fp => pe_c (he s H C cl fp)) hs2) fun _ _ _ q => lcL_of rfl q
/-! ### loops that stop the walk -/
@[irreducible] def mForR1 (ta : TA) (j : Nat) (tb : TS) : TS := fun D σ H => ta σ H fun ws H1 => ∃ (n : Int) (Pv : Nat → L2.St → Hp → Prop), ws = [.int n] ∧ (-100000 ≤ n ∧ n ≤ 100000) ∧ Pv 0 σ H1 ∧
  (∀ i σ' H', i < n.toNat → Pv i σ' H' → tb { D with nx := Pv (i + 1), ct := Pv (i + 1), bk := D.nx } (σ'.set j (some (.int (i : Nat)))) H') ∧ ∀ σ' H', Pv n.toNat σ' H' → D.nx σ' H'
theorem rd_forR1 {ta : TA} {j : Nat} {tb : TS} {D : Ends} {σ : L2.St} {H : Hp} (h : ta σ H fun ws H1 => ∃ (n : Int) (Pv : Nat → L2.St → Hp → Prop), ws = [.int n] ∧ (-100000 ≤ n ∧ n ≤ 100000) ∧ Pv 0 σ H1 ∧
  (∀ i σ' H', i < n.toNat → Pv i σ' H' → tb { D with nx := Pv (i + 1), ct := Pv (i + 1), bk := D.nx } (σ'.set j (some (.int (i : Nat)))) H') ∧ ∀ σ' H', Pv n.toNat σ' H' → D.nx σ' H') : mForR1 ta j tb D σ H := by
  unfold mForR1
  exact h
theorem forR1_of {ta : TA} {j : Nat} {tb : TS} {D : Ends} {σ : L2.St} {H : Hp} (q : mForR1 ta j tb D σ H) : tFor (iRng1 (cTA ta)) (gName j) tb D σ H := by
  unfold mForR1 at q
  refine ⟨_, q, fun ws H1 r => ?_⟩
  obtain ⟨n, Pv, rfl, ⟨hn0, hn⟩, h0, hs, hd⟩ := r
  have big : (2 : Int) ^ 62 = 4611686018427387904 := by decide
  refine ⟨n, rfl, by omega, by omega, for_range (lo := 0) (n := n.toNat) Pv h0 (fun i σ' H' hi p => ?_) hd⟩
  show tb _ (σ'.set j (some (.int (0 + (i : Int))))) H'
  rw [Int.zero_add]
  exact hs i σ' H' hi p
theorem ps_forR1 {j : Nat} {x : Str} {a : Expr} {body : List Stmt} {tb : TS} {p p2 xpos : Pos} (hp : PassesOwn (model X.prog X.w) X.A X.env X.xe) (hc : X.calm = true) (hg : Gl X "range") (hm : X.mg "range" = none) (ha : PA X [a] ta) (hgt : PG X (.Name x xpos) (gName j)) (hb : PSs X body tb)
    (hs : starEach [a] X.env = [(false, eval a X.env)] := by rfl) (hs2 : ∀ y, foldedSetIterable (.Call (.Name "range" p) [a] [] p2) X.env y = pure y := by intro _; rfl) : PS X (.For (.Name x xpos) (.Call (.Name "range" p) [a] [] p2) body [] pos) (mForR1 ta j tb) :=
  ps_weak (ps_for hp hc (pi_range1 hg hm (pa_c ha) hs) hgt hb hs2) fun _ _ _ q => forR1_of q
@[irreducible] def mForR2 (ta : TA) (j : Nat) (tb : TS) : TS := fun D σ H => ta σ H fun ws H1 => ∃ (lo n : Int) (Pv : Nat → L2.St → Hp → Prop), ws = [.int lo, .int n] ∧ (-4000000000000000000 ≤ lo ∧ lo ≤ 4000000000000000000 ∧ -4000000000000000000 ≤ n ∧ n ≤ 4000000000000000000) ∧ Pv 0 σ H1 ∧
  (∀ i σ' H', i < (n - lo).toNat → Pv i σ' H' → tb { D with nx := Pv (i + 1), ct := Pv (i + 1), bk := D.nx } (σ'.set j (some (.int (lo + (i : Int))))) H') ∧ ∀ σ' H', Pv (n - lo).toNat σ' H' → D.nx σ' H'
theorem rd_forR2 {ta : TA} {j : Nat} {tb : TS} {D : Ends} {σ : L2.St} {H : Hp} (h : ta σ H fun ws H1 => ∃ (lo n : Int) (Pv : Nat → L2.St → Hp → Prop), ws = [.int lo, .int n] ∧ (-4000000000000000000 ≤ lo ∧ lo ≤ 4000000000000000000 ∧ -4000000000000000000 ≤ n ∧ n ≤ 4000000000000000000) ∧ Pv 0 σ H1 ∧
  (∀ i σ' H', i < (n - lo).toNat → Pv i σ' H' → tb { D with nx := Pv (i + 1), ct := Pv (i + 1), bk := D.nx } (σ'.set j (some (.int (lo + (i : Int))))) H') ∧ ∀ σ' H', Pv (n - lo).toNat σ' H' → D.nx σ' H') : mForR2 ta j tb D σ H := by
  unfold mForR2
  exact h
theorem ps_forR2 {j : Nat} {x : Str} {a b : Expr} {body : List Stmt} {tb : TS} {p p2 xpos : Pos} (hp : PassesOwn (model X.prog X.w) X.A X.env X.xe) (hc : X.calm = true) (hg : Gl X "range") (hm : X.mg "range" = none) (ha : PA X [a, b] ta) (hgt : PG X (.Name x xpos) (gName j)) (hb : PSs X body tb)
    (hs : starEach [a, b] X.env = [(false, eval a X.env), (false, eval b X.env)] := by rfl) (hs3 : starEach [b] X.env = [(false, eval b X.env)] := by rfl) (hs2 : ∀ y, foldedSetIterable (.Call (.Name "range" p) [a, b] [] p2) X.env y = pure y := by intro _; rfl) :
    PS X (.For (.Name x xpos) (.Call (.Name "range" p) [a, b] [] p2) body [] pos) (mForR2 ta j tb) :=
  ps_weak (ps_for hp hc (pi_range2 hg hm (pa_c ha) hs hs3) hgt hb hs2) fun D σ H q => by
    unfold mForR2 at q
    refine ⟨_, q, fun ws H1 r => ?_⟩
    obtain ⟨lo, n, Pv, rfl, ⟨h1, h2, h3, h4⟩, h0, hs, hd⟩ := r
    have big : (2 : Int) ^ 62 = 4611686018427387904 := by decide
    exact ⟨lo, n, rfl, ⟨by omega, by omega, by omega, by omega⟩, for_range (lo := lo) (n := (n - lo).toNat) Pv h0 (fun i σ' H' hi p => hs i σ' H' hi p) hd⟩
/-- for x in xs -/
@[irreducible] def mForL (K : PySem.W.Frag) (tl : TE) (j : Nat) (tb : TS) : TS := fun D σ H => tl σ H fun x H1 => ∃ (a : Addr) (xs : List V) (Pv : Nat → L2.St → Hp → Prop), x = .ref a ∧ SqL K H1 a xs ∧ Pv 0 σ H1 ∧ (∀ i σ' H', i ≤ xs.length → Pv i σ' H' → SqL K H' a xs) ∧
  (∀ i y σ' H', xs[i]? = some y → Pv i σ' H' → tb { D with nx := Pv (i + 1), ct := Pv (i + 1), bk := D.nx } (σ'.set j (some y)) H') ∧ ∀ σ' H', Pv xs.length σ' H' → D.nx σ' H'
theorem rd_forL {K : PySem.W.Frag} {tl : TE} {j : Nat} {tb : TS} {D : Ends} {σ : L2.St} {H : Hp} (h : tl σ H fun x H1 => ∃ (a : Addr) (xs : List V) (Pv : Nat → L2.St → Hp → Prop), x = .ref a ∧ SqL K H1 a xs ∧ Pv 0 σ H1 ∧ (∀ i σ' H', i ≤ xs.length → Pv i σ' H' → SqL K H' a xs) ∧
  (∀ i y σ' H', xs[i]? = some y → Pv i σ' H' → tb { D with nx := Pv (i + 1), ct := Pv (i + 1), bk := D.nx } (σ'.set j (some y)) H') ∧ ∀ σ' H', Pv xs.length σ' H' → D.nx σ' H') : mForL K tl j tb D σ H := by
  unfold mForL
  exact h
theorem ps_forL {j : Nat} {x : Str} {it : Expr} {body : List Stmt} {tb : TS} {tl : TE} {xpos : Pos} (hp : PassesOwn (model X.prog X.w) X.A X.env X.xe) (hc : X.calm = true) (ha : PE X it tl) (hgt : PG X (.Name x xpos) (gName j)) (hb : PSs X body tb)
    (hs2 : ∀ y, foldedSetIterable it X.env y = pure y := by intro _; rfl) : PS X (.For (.Name x xpos) it body [] pos) (mForL X.K tl j tb) :=
  ps_weak (ps_for hp hc (pi_list (pe_c ha)) hgt hb hs2) fun D σ H q => by
    unfold mForL at q
    refine ⟨_, q, fun x H1 r => ?_⟩
    obtain ⟨a, xs, Pv, rfl, hx, h0, hl, hs, hd⟩ := r
    exact ⟨a, rfl, ⟨xs, hx⟩, for_list (xs := xs) Pv h0 hl (fun i y σ' H' hi p => hs i y σ' H' hi p) hd⟩
/-- for .. in xs, the target of any form -/
@[irreducible] def mForG (K : PySem.W.Frag) (tl : TE) (g : TG) (tb : TS) : TS := fun D σ H => tl σ H fun x H1 => ∃ (a : Addr) (xs : List V) (Pv : Nat → L2.St → Hp → Prop), x = .ref a ∧ SqL K H1 a xs ∧ Pv 0 σ H1 ∧ (∀ i σ' H', i ≤ xs.length → Pv i σ' H' → SqL K H' a xs) ∧
  (∀ i y σ' H', xs[i]? = some y → Pv i σ' H' → g y σ' H' fun σ2 H2 => tb { D with nx := Pv (i + 1), ct := Pv (i + 1), bk := D.nx } σ2 H2) ∧ ∀ σ' H', Pv xs.length σ' H' → D.nx σ' H'
theorem rd_forG {K : PySem.W.Frag} {tl : TE} {g : TG} {tb : TS} {D : Ends} {σ : L2.St} {H : Hp} (h : tl σ H fun x H1 => ∃ (a : Addr) (xs : List V) (Pv : Nat → L2.St → Hp → Prop), x = .ref a ∧ SqL K H1 a xs ∧ Pv 0 σ H1 ∧ (∀ i σ' H', i ≤ xs.length → Pv i σ' H' → SqL K H' a xs) ∧
  (∀ i y σ' H', xs[i]? = some y → Pv i σ' H' → g y σ' H' fun σ2 H2 => tb { D with nx := Pv (i + 1), ct := Pv (i + 1), bk := D.nx } σ2 H2) ∧ ∀ σ' H', Pv xs.length σ' H' → D.nx σ' H') : mForG K tl g tb D σ H := by
  unfold mForG
  exact h
theorem ps_forG {tg it : Expr} {body : List Stmt} {g : TG} {tb : TS} {tl : TE} (hp : PassesOwn (model X.prog X.w) X.A X.env X.xe) (hc : X.calm = true) (ha : PE X it tl) (hgt : PG X tg g) (hb : PSs X body tb)
    (hs2 : ∀ y, foldedSetIterable it X.env y = pure y := by intro _; rfl) : PS X (.For tg it body [] pos) (mForG X.K tl g tb) :=
  ps_weak (ps_for hp hc (pi_list (pe_c ha)) hgt hb hs2) fun D σ H q => by
    unfold mForG at q
    refine ⟨_, q, fun x H1 r => ?_⟩
    obtain ⟨a, xs, Pv, rfl, hx, h0, hl, hs, hd⟩ := r
    exact ⟨a, rfl, ⟨xs, hx⟩, for_list (xs := xs) Pv h0 hl (fun i y σ' H' hi p => hs i y σ' H' hi p) hd⟩
/-- for x, y in zip(xs, ys), lists of one length -/
@[irreducible] def mForZ (K : PySem.W.Frag) (ta : TA) (i1 i2 : Nat) (tb : TS) : TS := fun D σ H => ta σ H fun ws H1 => ∃ (a b : Addr) (xs ys : List V) (Pv : Nat → L2.St → Hp → Prop), ws = [.ref a, .ref b] ∧ SqL K H1 a xs ∧ SqL K H1 b ys ∧ xs.length = ys.length ∧ Pv 0 σ H1 ∧ (∀ i σ' H', Pv i σ' H' → SqL K H' a xs ∧ SqL K H' b ys) ∧
  (∀ i x y σ' H' H'', xs[i]? = some x → ys[i]? = some y → Pv i σ' H' → Same H' H'' → tb { D with nx := Pv (i + 1), ct := Pv (i + 1), bk := D.nx } ((σ'.set i1 (some x)).set i2 (some y)) H'') ∧ ∀ σ' H', Pv xs.length σ' H' → D.nx σ' H'
theorem rd_forZ {K : PySem.W.Frag} {ta : TA} {i1 i2 : Nat} {tb : TS} {D : Ends} {σ : L2.St} {H : Hp} (h : ta σ H fun ws H1 => ∃ (a b : Addr) (xs ys : List V) (Pv : Nat → L2.St → Hp → Prop), ws = [.ref a, .ref b] ∧ SqL K H1 a xs ∧ SqL K H1 b ys ∧ xs.length = ys.length ∧ Pv 0 σ H1 ∧ (∀ i σ' H', Pv i σ' H' → SqL K H' a xs ∧ SqL K H' b ys) ∧
  (∀ i x y σ' H' H'', xs[i]? = some x → ys[i]? = some y → Pv i σ' H' → Same H' H'' → tb { D with nx := Pv (i + 1), ct := Pv (i + 1), bk := D.nx } ((σ'.set i1 (some x)).set i2 (some y)) H'') ∧ ∀ σ' H', Pv xs.length σ' H' → D.nx σ' H') : mForZ K ta i1 i2 tb D σ H := by
  unfold mForZ
  exact h
theorem ps_forZ {e e2 : Expr} {kk : Nat} {p p2 tpos : Pos} {i1 i2 : Nat} {body : List Stmt} {tb : TS} {t1 t2 : Expr} (hp : PassesOwn (model X.prog X.w) X.A X.env X.xe) (hc : X.calm = true) (hg : Gl X "zip") (hm : X.mg "zip" = none) (ha : PA X [e, e2] ta)
    (hgt : PG X (.Tuple [t1, t2] kk tpos) (gTup X.K 2 (gCons (gName i1) (gCons (gName i2) gNil)))) (hb : PSs X body tb)
    (hs : starEach [e, e2] X.env = (false, eval e X.env) :: starEach [e2] X.env := by rfl) (hpl : (backTo p2 (starEach [e2] X.env)).any (·.1) = false := by rfl) (hs2 : ∀ y, foldedSetIterable (.Call (.Name "zip" p) [e, e2] [] p2) X.env y = pure y := by intro _; rfl) :
    PS X (.For (.Tuple [t1, t2] kk tpos) (.Call (.Name "zip" p) [e, e2] [] p2) body [] pos) (mForZ X.K ta i1 i2 tb) :=
  ps_weak (ps_for hp hc (pi_zip hg hm (pa_c ha) hs hpl) hgt hb hs2) fun D σ H q => by
    unfold mForZ at q
    refine ⟨_, q, fun ws H1 r => ?_⟩
    obtain ⟨a, b, xs, ys, Pv, rfl, hx, hy, hl, h0, hq, hs, hd⟩ := r
    refine ⟨a, b, xs, ys, rfl, hx, hy, RZ.for_zipL hl Pv h0 hq (fun i x y T σ' H' h1 h2 p hT => ?_) hd⟩
    exact ⟨T, [x, y], rfl, st_of upd_same, rfl, x, [y], rfl, y, [], rfl, rfl, hs i x y σ' H' _ h1 h2 p (same_upd hT)⟩
end
theorem ite_ei {x y : Int} {A B : Prop} (hc : x = y) (h : A) : if decide (V.int x = V.int y) = true then A else B := ite_t (congrArg V.int hc) h
theorem ite_eif {x y : Int} {A B : Prop} (hc : x ≠ y) (h : B) : if decide (V.int x = V.int y) = true then A else B := ite_f (fun e => hc (V.int.inj e)) h
theorem ite_ni {x y : Int} {A B : Prop} (hc : x = y) (h : B) : if (!decide (V.int x = V.int y)) = true then A else B := ite_nf (congrArg V.int hc) h
theorem ite_nit {x y : Int} {A B : Prop} (hc : x ≠ y) (h : A) : if (!decide (V.int x = V.int y)) = true then A else B := ite_nt (fun e => hc (V.int.inj e)) h
theorem ite_eby {x y : Int} {A B : Prop} (h1 : x = y → A) (h2 : x ≠ y → B) : if decide (V.int x = V.int y) = true then A else B := ite_by (fun e => h1 (V.int.inj e)) (fun n => h2 fun e => n (congrArg V.int e))
theorem ite_enby {x y : Int} {A B : Prop} (h1 : x ≠ y → A) (h2 : x = y → B) : if (!decide (V.int x = V.int y)) = true then A else B := ite_nby (fun n => h1 fun e => n (congrArg V.int e)) (fun e => h2 (V.int.inj e))

/-! ### branches that stop the walk -/
@[irreducible] def Br (b : Bool) (A B : Prop) : Prop := if b = true then A else B
section
variable {b : Bool} {A B : Prop}
theorem Br.un (h : Br b A B) : if b = true then A else B := by
  unfold Br at h
  exact h
theorem br_of (h : if b = true then A else B) : Br b A B := by
  unfold Br
  exact h
theorem br_T (h : A) : Br true A B := br_of (iteT h)
theorem br_F (h : B) : Br false A B := br_of (iteF h)
theorem br_nT (h : A) : Br (!false) A B := br_of (iteT h)
theorem br_nF (h : B) : Br (!true) A B := br_of (iteF h)
theorem br_t {c : Prop} [Decidable c] (hc : c) (h : A) : Br (decide c) A B := br_of (ite_t hc h)
theorem br_f {c : Prop} [Decidable c] (hc : ¬ c) (h : B) : Br (decide c) A B := br_of (ite_f hc h)
theorem br_nt {c : Prop} [Decidable c] (hc : ¬ c) (h : A) : Br (!decide c) A B := br_of (ite_nt hc h)
theorem br_nf {c : Prop} [Decidable c] (hc : c) (h : B) : Br (!decide c) A B := br_of (ite_nf hc h)
theorem br_by {c : Prop} [Decidable c] (h1 : c → A) (h2 : ¬ c → B) : Br (decide c) A B := br_of (ite_by h1 h2)
theorem br_nby {c : Prop} [Decidable c] (h1 : ¬ c → A) (h2 : c → B) : Br (!decide c) A B := br_of (ite_nby h1 h2)
theorem br_ei {x y : Int} (hc : x = y) (h : A) : Br (decide (V.int x = V.int y)) A B := br_of (ite_ei hc h)
theorem br_eif {x y : Int} (hc : x ≠ y) (h : B) : Br (decide (V.int x = V.int y)) A B := br_of (ite_eif hc h)
theorem br_ni {x y : Int} (hc : x = y) (h : B) : Br (!decide (V.int x = V.int y)) A B := br_of (ite_ni hc h)
theorem br_nit {x y : Int} (hc : x ≠ y) (h : A) : Br (!decide (V.int x = V.int y)) A B := br_of (ite_nit hc h)
theorem br_eby {x y : Int} (h1 : x = y → A) (h2 : x ≠ y → B) : Br (decide (V.int x = V.int y)) A B := br_of (ite_eby h1 h2)
theorem br_enby {x y : Int} (h1 : x ≠ y → A) (h2 : x = y → B) : Br (!decide (V.int x = V.int y)) A B := br_of (ite_enby h1 h2)
theorem br_b (h1 : b = true → A) (h2 : b = false → B) : Br b A B := by
  cases b with
  | true => exact br_T (h1 rfl)
  | false => exact br_F (h2 rfl)
end
def mIfS (c : TT) (t u : TS) : TS := fun D σ H => c σ H fun b H1 => Br b (t D σ H1) (u D σ H1)
def mIf (c : TT) (ta tb : TE) : TE := fun σ H Q => c σ H fun b H1 => Br b (ta σ H1 Q) (tb σ H1 Q)
def mAnd (t u : TT) : TT := fun σ H Q => t σ H fun c H1 => Br c (u σ H1 Q) (Q false H1)
def mOr (t u : TT) : TT := fun σ H Q => t σ H fun c H1 => Br c (Q true H1) (u σ H1 Q)
def mAndV (ta tb : TE) : TE := fun σ H Q => ta σ H fun x H1 => ∃ c, x = .bl c ∧ Br c (tb σ H1 Q) (Q (.bl false) H1)
def mOrV (ta tb : TE) : TE := fun σ H Q => ta σ H fun x H1 => ∃ c, x = .bl c ∧ Br c (Q (.bl true) H1) (tb σ H1 Q)
def mChain (r r' : R2) (ta tb tc : TE) : TE := fun σ H Q => ta σ H fun x H1 => tb σ H1 fun y H2 => r x y H2 fun z H3 => ∃ k, z = .bl k ∧ Br k (tc σ H3 fun w' H4 => r' y w' H4 Q) (Q (.bl false) H3)
def mNot (t : TT) : TT := fun σ H Q => t σ H fun c H1 => Q (!c) H1
def cR2 (r : R2) : R2 := fun x y H Q => ∃ R : VK, r x y H R ∧ ∀ v H', R v H' → Q v H'
section
variable {X : Cx} {e a b c : Expr} {ta tb tc : TE} {tt tA tB' : TT} {pos : Pos} {t u : TS} {rest : List Expr}
theorem pw_weak {tt' : TT} (h : PW X e tt) (w : ∀ σ H Q, tt' σ H Q → tt σ H Q) : PW X e tt' := ⟨fun wh pins s σ H Q I q => h.run wh pins s σ H Q I (w σ H Q q)⟩
theorem pt_weak {tt' : TT} (h : PT X e tt) (w : ∀ σ H Q, tt' σ H Q → tt σ H Q) : PT X e tt' := ⟨fun pins s σ H Q I q => h.run pins s σ H Q I (w σ H Q q)⟩
theorem opr_c {f : Value → Value → Sem Value} {r : R2} (h : OpR X f r) : OpR X f (cR2 r) := fun pins s σ H x y v u Q I rx ry ⟨R, h1, h2⟩ => thn (h pins s σ H x y v u R I rx ry h1) fun w s1 ⟨z, H1, I1, rz, q⟩ => ⟨z, H1, I1, rz, h2 _ _ q⟩
theorem ps_ifM {bs us : List Stmt} (hc : PT X c tt) (ha : PSs X bs t) (hb : PSs X us u) : PS X (.If c bs us pos) (mIfS tt t u) := ps_weak (ps_if (pt_c hc) ha hb) fun D σ H q => ⟨_, q, fun b H1 r => r.un⟩
theorem pe_ifM (hc : PT X c tt) (ha : PE X a ta) (hb : PE X b tb) : PE X (.IfExp c a b pos) (mIf tt ta tb) := pe_weak (pe_ifExp (pt_c hc) ha hb) fun σ H Q q => ⟨_, q, fun b H1 r => r.un⟩
theorem pw_andM (ha : PT X a tA) (hb : PW X (.BoolOp .And (b :: rest) pos) tB') : PW X (.BoolOp .And (a :: b :: rest) pos) (mAnd tA tB') := pw_weak (pw_and (pt_c ha) hb) fun σ H Q q => ⟨_, q, fun b H1 r => r.un⟩
theorem pw_orM (ha : PT X a tA) (hb : PW X (.BoolOp .Or (b :: rest) pos) tB') : PW X (.BoolOp .Or (a :: b :: rest) pos) (mOr tA tB') := pw_weak (pw_or (pt_c ha) hb) fun σ H Q q => ⟨_, q, fun b H1 r => r.un⟩
theorem pe_andM (ha : PE X a ta) (hb : PE X (.BoolOp .And (b :: rest) pos) tb) : PE X (.BoolOp .And (a :: b :: rest) pos) (mAndV ta tb) := pe_weak (pe_and (pe_c ha) hb) fun σ H Q q => ⟨_, q, fun v H1 ⟨c, e, r⟩ => ⟨c, e, r.un⟩⟩
theorem pe_orM (ha : PE X a ta) (hb : PE X (.BoolOp .Or (b :: rest) pos) tb) : PE X (.BoolOp .Or (a :: b :: rest) pos) (mOrV ta tb) := pe_weak (pe_or (pe_c ha) hb) fun σ H Q q => ⟨_, q, fun v H1 ⟨c, e, r⟩ => ⟨c, e, r.un⟩⟩
theorem pe_chainM {op op' : CmpOp} {r r' : R2} (ho : OpR X (compareOp op) r) (ho' : OpR X (compareOp op') r') (ha : PE X a ta) (hb : PE X b tb) (hc : PE X c tc) (hm : lastMarks [op, op'] [b, c] = false := by with_unfolding_all rfl) : PE X (.Compare a [op, op'] [b, c] pos) (mChain r r' ta tb tc) :=
  pe_weak (pe_chain (opr_c ho) ho' (pe_c ha) (pe_c hb) hc hm) fun σ H Q q => ⟨_, q, fun x H1 q1 => ⟨_, q1, fun y H2 q2 => ⟨_, q2, fun z H3 ⟨k, e, r⟩ => ⟨k, e, r.un⟩⟩⟩⟩
theorem pt_chainM {op op' : CmpOp} {r r' : R2} (ho : OpR X (compareOp op) r) (ho' : OpR X (compareOp op') r') (ha : PE X a ta) (hb : PE X b tb) (hc : PE X c tc) (hm : lastMarks [op, op'] [b, c] = false := by with_unfolding_all rfl) : PT X (.Compare a [op, op'] [b, c] pos) (tTest (mChain r r' ta tb tc)) :=
  pt_weak (pt_chain (opr_c ho) ho' (pe_c ha) (pe_c hb) hc hm) fun σ H Q q => ⟨_, q, fun x H1 q1 => ⟨_, q1, fun y H2 q2 => ⟨_, q2, fun z H3 ⟨k, e, r⟩ => ⟨k, e, r.un⟩⟩⟩⟩
end
/-! ### the operators, told without a redex -/
def mAdd : R2 := fun x y H Q => ∃ i j, x = .int i ∧ y = .int j ∧ Q (.int (i + j)) H
def mSub : R2 := fun x y H Q => ∃ i j, x = .int i ∧ y = .int j ∧ Q (.int (i - j)) H
def mMul : R2 := fun x y H Q => ∃ i j, x = .int i ∧ y = .int j ∧ CMul i j ∧ Q (.int (i * j)) H
def mMulW : R2 := fun x y H Q => ∃ i j, x = .int i ∧ y = .int j ∧ CMulW i j ∧ Q (.int (i * j)) H
def mDiv : R2 := fun x y H Q => ∃ i j, x = .int i ∧ y = .int j ∧ CDiv i j ∧ Q (.int (i / j)) H
def mDivW : R2 := fun x y H Q => ∃ i j, x = .int i ∧ y = .int j ∧ CDivW i j ∧ Q (.int (i / j)) H
def mMod : R2 := fun x y H Q => ∃ i j, x = .int i ∧ y = .int j ∧ 0 < j ∧ Q (.int (i % j)) H
def mPow : R2 := fun x y H Q => ∃ i j, x = .int i ∧ y = .int j ∧ CPow i j ∧ Q (.int (i ^ j.toNat)) H
def mShl1 : R2 := fun x y H Q => ∃ j, x = .int 1 ∧ y = .int j ∧ (0 ≤ j ∧ j ≤ 1000000) ∧ Q (.int (2 ^ j.toNat)) H
def mShl : R2 := fun x y H Q => ∃ i j, x = .int i ∧ y = .int j ∧ CShl i j ∧ Q (.int (i * 2 ^ j.toNat)) H
def mShr : R2 := fun x y H Q => ∃ i j, x = .int i ∧ y = .int j ∧ 0 ≤ j ∧ Q (.int (i / 2 ^ j.toNat)) H
def mAndI : R2 := fun x y H Q => ∃ i j, x = .int i ∧ y = .int j ∧ Q (.int (Builtin.bitAnd i j)) H
def mXorI : R2 := fun x y H Q => ∃ i j, x = .int i ∧ y = .int j ∧ Q (.int (Builtin.bitXor i j)) H
def mLt : R2 := fun x y H Q => ∃ i j, x = .int i ∧ y = .int j ∧ Q (.bl (decide (i < j))) H
def mLe : R2 := fun x y H Q => ∃ i j, x = .int i ∧ y = .int j ∧ Q (.bl (decide (i ≤ j))) H
def mGt : R2 := fun x y H Q => ∃ i j, x = .int i ∧ y = .int j ∧ Q (.bl (decide (j < i))) H
def mGe : R2 := fun x y H Q => ∃ i j, x = .int i ∧ y = .int j ∧ Q (.bl (decide (j ≤ i))) H
section
variable {X : Cx}
theorem op_addM : OpR X (binaryOp .Add) mAdd := op_add
theorem op_subM : OpR X (binaryOp .Sub) mSub := op_sub
theorem op_mulM : OpR X (binaryOp .Mult) mMul := op_mul
theorem op_mulWM : OpR X (binaryOp .Mult) mMulW := op_mulW
theorem op_fdivM : OpR X (binaryOp .FloorDiv) mDiv := op_fdiv
theorem op_fdivWM : OpR X (binaryOp .FloorDiv) mDivW := op_fdivW
theorem op_modM : OpR X (binaryOp .Mod) mMod := op_mod
theorem op_powM : OpR X (binaryOp .Pow) mPow := op_pow
theorem op_shl1M : OpR X (binaryOp .LShift) mShl1 := fun pins s σ H x y v u Q I rx ry ⟨j, e1, e2, hj, q⟩ => op_shl pins s σ H x y v u Q I rx ry ⟨1, j, e1, e2, ⟨hj.1, hj.2, by decide⟩, by
  show Q (.int (1 * 2 ^ j.toNat)) H
  rw [Int.one_mul]
  exact q⟩
theorem op_shlM : OpR X (binaryOp .LShift) mShl := op_shlW
theorem op_shrM : OpR X (binaryOp .RShift) mShr := op_shr
theorem op_bandM : OpR X (binaryOp .BitAnd) mAndI := op_and
theorem op_bxorM : OpR X (binaryOp .BitXor) mXorI := op_xor
theorem op_ltM : OpR X (compareOp .Lt) mLt := op_lt
theorem op_leM : OpR X (compareOp .LtE) mLe := op_le
theorem op_gtM : OpR X (compareOp .Gt) mGt := op_gt
theorem op_geM : OpR X (compareOp .GtE) mGe := op_ge
end

theorem two_pos (k : Nat) : (0 : Int) < 2 ^ k := Int.pow_pos (by decide)

@[irreducible] def mIsi (K : PySem.W.Frag) : List V → Hp → VK → Prop := rIsi K
theorem call_isiM {X : Cx} : CallR X (.builtin "isinstance") (mIsi X.K) := fun pins s σ H xs us Q I r q => call_isi pins s σ H xs us Q I r (by
  unfold mIsi at q
  exact q)
section
variable {K : PySem.W.Frag} {H : Hp} {Q : VK}
theorem rd_isiIB {i : Int} (h : Q (.bl false) H) : mIsi K [.int i, .ty "bool"] H Q := by
  unfold mIsi
  exact ⟨_, _, _, _, false, rfl, ClsV.ty _, TyX.base (TyOf.int _), by rfl, h⟩
theorem rd_isiII {i : Int} (h : Q (.bl true) H) : mIsi K [.int i, .ty "int"] H Q := by
  unfold mIsi
  exact ⟨_, _, _, _, true, rfl, ClsV.ty _, TyX.base (TyOf.int _), by rfl, h⟩
theorem rd_isiBB {b : Bool} (h : Q (.bl true) H) : mIsi K [.bl b, .ty "bool"] H Q := by
  unfold mIsi
  exact ⟨_, _, _, _, true, rfl, ClsV.ty _, TyX.base (TyOf.bl _), by rfl, h⟩
theorem rd_isiTT {a : Addr} {xs : List V} (e : H a = some (.tup xs)) (h : Q (.bl true) H) : mIsi K [.ref a, .ty "tuple"] H Q := by
  unfold mIsi
  exact ⟨_, _, _, _, true, rfl, ClsV.ty _, TyX.base (TyOf.tup e), by rfl, h⟩
theorem rd_isiLL {a : Addr} {xs : List V} (e : H a = some (.lst xs)) (h : Q (.bl true) H) : mIsi K [.ref a, .ty "list"] H Q := by
  unfold mIsi
  exact ⟨_, _, _, _, true, rfl, ClsV.ty _, TyX.base (TyOf.lst e), by rfl, h⟩
end

/-! ### equal data -/
def Sh (n : Nat) (d : PyData) : Prop := d.canLay0 = true ∧ d.depth ≤ n
def ShA (n : Nat) (ds : List PyData) : Prop := PyData.canLayAll0 ds = true ∧ PyData.depthAll ds ≤ n
theorem sh_int {i : Int} {n : Nat} : Sh n (.int i) := ⟨rfl, Nat.zero_le _⟩
theorem sh_bl {i : Bool} {n : Nat} : Sh n (.bool i) := ⟨rfl, Nat.zero_le _⟩
theorem sh_non {n : Nat} : Sh n .none := ⟨rfl, Nat.zero_le _⟩
theorem sh_str {x : Str} {n : Nat} (h : PyData.canLay0 (.str x) = true) : Sh n (.str x) := ⟨h, Nat.zero_le _⟩
theorem sh_nil {n : Nat} : ShA n [] := ⟨rfl, Nat.zero_le _⟩
theorem sh_cons {n : Nat} {d : PyData} {ds : List PyData} (h : Sh n d) (k : ShA n ds) : ShA n (d :: ds) := by
  refine ⟨?_, ?_⟩
  · show (d.canLay0 && PyData.canLayAll0 ds) = true
    rw [h.1, k.1]
    rfl
  · show max d.depth (PyData.depthAll ds) ≤ n
    have := h.2
    have := k.2
    omega
theorem sh_lst {n : Nat} {ds : List PyData} (h : ShA n ds) : Sh (n + 1) (.list ds) := ⟨h.1, Nat.succ_le_succ h.2⟩
theorem sh_tup {n : Nat} {ds : List PyData} (h : ShA n ds) : Sh (n + 1) (.tuple ds) := ⟨h.1, Nat.succ_le_succ h.2⟩
theorem sh_map {α : Type} {n : Nat} {f : α → PyData} (h : ∀ x, Sh n (f x)) : ∀ l : List α, ShA n (l.map f)
  | [] => sh_nil
  | x :: r => sh_cons (h x) (sh_map h r)
theorem sh_app {n : Nat} : ∀ {ds es : List PyData}, ShA n ds → ShA n es → ShA n (ds ++ es)
  | [], _, _, k => k
  | d :: r, es, h, k => by
    have h1 : (d.canLay0 && PyData.canLayAll0 r) = true := h.1
    have h2 : max d.depth (PyData.depthAll r) ≤ n := h.2
    rw [Bool.and_eq_true] at h1
    exact sh_cons ⟨h1.1, by omega⟩ (sh_app ⟨h1.2, by omega⟩ k)
theorem Sh.shaped {n : Nat} {d : PyData} (h : Sh n d) (hn : n ≤ 64 := by decide) : SeqAt.shaped d = true := by
  unfold SeqAt.shaped
  rw [h.1, decide_eq_true (Nat.le_trans h.2 hn)]
  rfl
theorem sh_ints {n : Nat} (l : List Int) : ShA n (l.map PyData.int) := sh_map (fun _ => sh_int) l
section
variable {K : PySem.W.Frag} {H : Hp} {Q : VK} {x y : V}
theorem dpa_ints : ∀ l : List Int, DpAll K H (l.map V.int) (l.map PyData.int)
  | [] => .nil
  | i :: r => .cons (.int i) (dpa_ints r)
theorem dp_ints {a : Addr} {l : List Int} (h : SqL K H a (l.map V.int)) : Dp K H (.ref a) (.list (l.map PyData.int)) := .lst h (dpa_ints l)
@[irreducible] def mEqD (K : PySem.W.Frag) : R2 := rEqD K
@[irreducible] def mNeD (K : PySem.W.Frag) : R2 := rNeD K
theorem rd_eqS {n : Nat} (d : PyData) (h1 : Dp K H x d) (h2 : Dp K H y d) (hs : Sh n d) (h : Q (.bl true) H) (hn : n ≤ 64 := by decide) : mEqD K x y H Q := by
  unfold mEqD
  exact ⟨d, d, h1, h2, hs.shaped hn, hs.shaped hn, by rw [PySem.SeqAt.eqv_refl d hs.1]; exact h⟩
theorem rd_neS {n : Nat} (d : PyData) (h1 : Dp K H x d) (h2 : Dp K H y d) (hs : Sh n d) (h : Q (.bl false) H) (hn : n ≤ 64 := by decide) : mNeD K x y H Q := by
  unfold mNeD
  exact ⟨d, d, h1, h2, hs.shaped hn, hs.shaped hn, by rw [PySem.SeqAt.eqv_refl d hs.1]; exact h⟩
/-- of any two: the answer is that of the data -/
theorem rd_eqA {n m : Nat} (d e : PyData) (h1 : Dp K H x d) (h2 : Dp K H y e) (hs : Sh n d) (hs2 : Sh m e) (h : Q (.bl (PyData.eqv d e)) H) (hn : n ≤ 64 := by decide) (hm : m ≤ 64 := by decide) : mEqD K x y H Q := by
  unfold mEqD
  exact ⟨d, e, h1, h2, hs.shaped hn, hs2.shaped hm, h⟩
theorem rd_neA {n m : Nat} (d e : PyData) (h1 : Dp K H x d) (h2 : Dp K H y e) (hs : Sh n d) (hs2 : Sh m e) (h : Q (.bl (!PyData.eqv d e)) H) (hn : n ≤ 64 := by decide) (hm : m ≤ 64 := by decide) : mNeD K x y H Q := by
  unfold mNeD
  exact ⟨d, e, h1, h2, hs.shaped hn, hs2.shaped hm, h⟩
end
section
variable {X : Cx}
theorem op_eqDM (hu : X.A.units + 64 < cLine) : OpR X (compareOp .Eq) (mEqD X.K) := fun pins s σ H x y v u Q I rx ry q => op_eqD hu pins s σ H x y v u Q I rx ry (by
  unfold mEqD at q
  exact q)
theorem op_neDM (hu : X.A.units + 64 < cLine) : OpR X (compareOp .NotEq) (mNeD X.K) := fun pins s σ H x y v u Q I rx ry q => op_neD hu pins s σ H x y v u Q I rx ry (by
  unfold mNeD at q
  exact q)
end
/-! ### one-step readings that know their heap -/
@[irreducible] def mIxL (K : PySem.W.Frag) : R2 := rIxL K
theorem ix_listM {X : Cx} : IxR X (mIxL X.K) := fun value slice pins s σ H x y v u Q I rx ry q e => ix_list value slice pins s σ H x y v u Q I rx ry (by
  unfold mIxL at q
  exact q) e
@[irreducible] def mIxT (K : PySem.W.Frag) : R2 := rIxT K
theorem ix_tupM {X : Cx} : IxR X (mIxT X.K) := fun value slice pins s σ H x y v u Q I rx ry q e => ix_tup value slice pins s σ H x y v u Q I rx ry (by
  unfold mIxT at q
  exact q) e
section
variable {K : PySem.W.Frag} {H : Hp} {Q : VK} {a : Addr} {xs : List V} {k : Int} {v : V}
theorem rd_ixL (h : SqL K H a xs) (ha : atI xs k = some v) (q : Q v H) : mIxL K (.ref a) (.int k) H Q := by
  unfold mIxL
  exact ⟨a, xs, k, v, rfl, rfl, h, ha, q⟩
theorem rd_ixT (h : SqT K H a xs) (ha : atI xs k = some v) (q : Q v H) : mIxT K (.ref a) (.int k) H Q := by
  unfold mIxT
  exact ⟨a, xs, k, v, rfl, rfl, h, ha, q⟩
theorem rd_ixI {ns : List Int} (h : SqL K H a (ns.map V.int)) (h0 : 0 ≤ k) (h1 : k < (ns.length : Int)) (q : Q (.int (ns.getD k.toNat 0)) H) : mIxL K (.ref a) (.int k) H Q := rd_ixL h (at_int h0 h1) q
end
@[irreducible] def mLen (K : PySem.W.Frag) : List V → Hp → VK → Prop := fun xs H Q => ∃ p ys, xs = [.ref p] ∧ (SqL K H p ys ∨ SqT K H p ys) ∧ Q (.int ys.length) H
theorem call_lenM {X : Cx} : CallR X (.builtin "len") (mLen X.K) := fun pins s σ H xs us Q I r q => call_len_seq pins s σ H xs us Q I r (by
  unfold mLen at q
  exact q)
theorem rd_len {K : PySem.W.Frag} {H : Hp} {Q : VK} {a : Addr} {xs : List V} (h : SqL K H a xs) (q : Q (.int xs.length) H) : mLen K [.ref a] H Q := by
  unfold mLen
  exact ⟨a, xs, rfl, .inl h, q⟩
theorem rd_lenI {K : PySem.W.Frag} {H : Hp} {Q : VK} {a : Addr} {ns : List Int} (h : SqL K H a (ns.map V.int)) (q : Q (.int ns.length) H) : mLen K [.ref a] H Q := rd_len h (by rw [List.length_map]; exact q)
theorem rd_lenT {K : PySem.W.Frag} {H : Hp} {Q : VK} {a : Addr} {xs : List V} (h : SqT K H a xs) (q : Q (.int xs.length) H) : mLen K [.ref a] H Q := by
  unfold mLen
  exact ⟨a, xs, rfl, .inr h, q⟩
/-- xs.append(e) -/
@[irreducible] def mApp (x y : V) (H : Hp) (Q : VK) : Prop := ∃ l xs, x = .ref l ∧ H l = some (.lst xs) ∧ xs.length < 1000000 ∧ Q .non (upd H l (.lst (xs ++ [y])))
def mAppE (to te : TE) : TE := fun σ H Q => to σ H fun x H1 => ∃ l xs, x = .ref l ∧ H1 l = some (.lst xs) ∧ te σ H1 fun y H2 => mApp x y H2 Q
theorem rd_app {l : Addr} {xs : List V} {y : V} {H : Hp} {Q : VK} (h : H l = some (.lst xs)) (hz : xs.length < 1000000) (q : Q .non (upd H l (.lst (xs ++ [y])))) : mApp (.ref l) y H Q := by
  unfold mApp
  exact ⟨l, xs, rfl, h, hz, q⟩
theorem pe_app {X : Cx} {o e : Expr} {to te : TE} {apos cpos : Pos} (ho : PE X o to) (he : PE X e te) (hbase : attributeBase o "append" X.env (eval o X.env) = eval o X.env := by rfl)
    (hfew : ((backTo cpos (starEach [e] X.env)).all (fun x => !x.1) && (backToKw cpos (keywordEach [] X.env)).all (fun x => x.1.isSome)
      && decide ([e].length + ([] : List Keyword).length + (if ([] : List Keyword).isEmpty then 0 else 1) < 30)) = true := by rfl)
    (hline : (apos.endLine == cpos.line) = true := by rfl) (hs : starEach [e] X.env = (false, eval e X.env) :: starEach [] X.env := by rfl) (hplain : (backTo cpos (starEach [] X.env)).any (·.1) = false := by rfl) :
    PE X (.Call (.Attribute o "append" apos) [e] [] cpos) (mAppE to te) :=
  pe_weak (pe_bm PySem.F.plainAttrs_list PySem.F.slot_list_append PySem.F.type_list_append mt_append (pe_c ho) (pa_cons (pe_c he) pa_nil hs) hbase hfew hline hs hplain) fun σ H Q q => by
    refine ⟨_, q, fun x H1 r => ?_⟩
    obtain ⟨l, xs, rfl, h, r⟩ := r
    refine ⟨Or.inl ⟨rfl, _, SqL.of h⟩, _, r, fun y H2 r2 => ?_⟩
    unfold mApp at r2
    obtain ⟨l2, ys, e2, h2, hz, q2⟩ := r2
    exact ⟨l2, ys, y, e2, rfl, h2, szl hz, q2⟩
/-- o[i] = e, o a list -/
@[irreducible] def mSetL : V → V → V → Hp → (Hp → Prop) → Prop := rSetL
theorem set_listM {X : Cx} : PSet X mSetL := fun pins s σ H o i v uo ui uv Q I ro ri rv q => set_list pins s σ H o i v uo ui uv Q I ro ri rv (by
  unfold mSetL at q
  exact q)
theorem rd_setL {l : Addr} {xs : List V} {k : Int} {y : V} {H : Hp} {Q : Hp → Prop} (h : H l = some (.lst xs)) (h0 : 0 ≤ k) (h1 : k < (xs.length : Int)) (q : Q (upd H l (.lst (xs.set k.toNat y)))) : mSetL (.ref l) (.int k) y H Q := by
  unfold mSetL
  refine ⟨l, xs, k, k.toNat, rfl, rfl, h, ?_, q⟩
  unfold ixN
  first
    | (rw [if_pos h0, if_pos (by omega)]; done)
    | (rw [if_neg (by omega), if_pos (by omega)]; done)
    | simp [show ¬ k < 0 by omega, h0, h1]
/-- what a loop keeps of its own list: all else as it was -/
def But (p : Addr) (H H' : Hp) : Prop := ∀ b o, b ≠ p → H b = some o → H' b = some o

@[irreducible] def mSum (K : PySem.W.Frag) : List V → Hp → VK → Prop := rSum K
theorem call_sumM {X : Cx} (hc : X.calm = true) : CallR X (.builtin "sum") (mSum X.K) := fun pins s σ H xs us Q I r q => cr_sum hc pins s σ H xs us Q I r (by
  unfold mSum at q
  exact q)
theorem rd_sum {K : PySem.W.Frag} {H : Hp} {Q : VK} {a : Addr} {ns : List Int} (h : SqL K H a (ns.map V.int)) (q : Q (.int ns.sum) H) : mSum K [.ref a] H Q := by
  unfold mSum
  exact ⟨a, ns, rfl, h, q⟩

/-- isinstance(e, C), e the error that the suite holds, whatever its class -/
def mIsE (K : PySem.W.Frag) (cls : Value) (d : Option Addr) (a : Addr) : List V → Hp → VK → Prop := fun xs H Q => ∃ (D C : Addr) (b : Bool), xs = [.ref a, .ref C] ∧ cls = .ref D ∧ d = none ∧ ExcC K D ∧ PySem.W.kitOne K (.ref D) (.ref C) = some b ∧ Q (.bl b) H
theorem call_isEM {X : Cx} {a : Addr} {oe : Obj} {cls : Value} {d : Option Addr} {pn : List (Addr × Obj)} (hz : Zc cls d oe) (hf : ∃ vs, oe.data = .fields vs) : CallR (X.suite a ((a, oe) :: pn)) (.builtin "isinstance") (mIsE X.K cls d a) := by
  intro pins s σ H xs us Q I r h
  obtain ⟨D, C, b, rfl, rfl, rfl, hD, hk, q⟩ := h
  exact call_isE hD hz hf pins s σ H [.ref a, .ref C] us Q I r ⟨.ref C, .ref C, b, rfl, fun u hu => hu, hk, q⟩
theorem kit_same {K : PySem.W.Frag} {D : Addr} : PySem.W.kitOne K (.ref D) (.ref D) = some true := by
  unfold PySem.W.kitOne
  rw [if_pos (by simp)]

/-! ### constants, extend, repetition, min of three -/
theorem pe_gint {X : Cx} {x : Str} {n : Int} {pos : Pos} (hg : Gl X x) (hm : ∃ t, X.mg x = some (.int n t)) (hd : (x == ("__debug__" : Str)) = false := by decide) : PE X (.Name x pos) (tC (.int n)) := by
  obtain ⟨t, hm⟩ := hm
  exact pe_glob hg hm ⟨t, rfl⟩ hd
@[irreducible] def mExt (x y : V) (H : Hp) (Q : VK) : Prop := ∃ l b xs zs, x = .ref l ∧ y = .ref b ∧ H l = some (.lst xs) ∧ H b = some (.lst zs) ∧ xs.length + zs.length ≤ 1000000 ∧ Q .non (upd H l (.lst (xs ++ zs)))
def mExtE (to te : TE) : TE := fun σ H Q => to σ H fun x H1 => ∃ l xs, x = .ref l ∧ H1 l = some (.lst xs) ∧ te σ H1 fun y H2 => mExt x y H2 Q
theorem rd_ext {l b : Addr} {xs zs : List V} {H : Hp} {Q : VK} (h : H l = some (.lst xs)) (hb : H b = some (.lst zs)) (hz : xs.length + zs.length ≤ 1000000) (q : Q .non (upd H l (.lst (xs ++ zs)))) : mExt (.ref l) (.ref b) H Q := by
  unfold mExt
  exact ⟨l, b, xs, zs, rfl, rfl, h, hb, hz, q⟩
theorem pe_ext {X : Cx} {o e : Expr} {to te : TE} {apos cpos : Pos} (ho : PE X o to) (he : PE X e te) (hbase : attributeBase o "extend" X.env (eval o X.env) = eval o X.env := by rfl)
    (hfew : ((backTo cpos (starEach [e] X.env)).all (fun x => !x.1) && (backToKw cpos (keywordEach [] X.env)).all (fun x => x.1.isSome)
      && decide ([e].length + ([] : List Keyword).length + (if ([] : List Keyword).isEmpty then 0 else 1) < 30)) = true := by rfl)
    (hline : (apos.endLine == cpos.line) = true := by rfl) (hs : starEach [e] X.env = (false, eval e X.env) :: starEach [] X.env := by rfl) (hplain : (backTo cpos (starEach [] X.env)).any (·.1) = false := by rfl) :
    PE X (.Call (.Attribute o "extend" apos) [e] [] cpos) (mExtE to te) :=
  pe_weak (pe_bm PySem.F.plainAttrs_list PySem.F.slot_list_extend PySem.F.type_list_extend mt_extend (pe_c ho) (pa_cons (pe_c he) pa_nil hs) hbase hfew hline hs hplain) fun σ H Q q => by
    refine ⟨_, q, fun x H1 r => ?_⟩
    obtain ⟨l, xs, rfl, h, r⟩ := r
    refine ⟨Or.inl ⟨rfl, _, SqL.of h⟩, _, r, fun y H2 r2 => ?_⟩
    unfold mExt at r2
    obtain ⟨l2, b2, ys, zs, e2, rfl, h2, h3, hz, q2⟩ := r2
    exact ⟨l2, b2, ys, zs, e2, rfl, h2, h3, sz hz, q2⟩
theorem op_repM {X : Cx} : OpR X (binaryOp .Mult) mRep := fun pins s σ H x y v u Q I rx ry q => op_rep pins s σ H x y v u Q I rx ry (by
  unfold mRep at q
  obtain ⟨l, k, xs, e1, e2, h1, h0, hk, hz, h⟩ := q
  have big : (2 : Int) ^ 63 = 9223372036854775808 := by decide
  exact ⟨l, k, xs, e1, e2, h1, by omega, by omega, sz hz, h.go⟩)
theorem rd_rep {l : Addr} {k : Int} {xs : List V} {H : Hp} {Q : VK} (h1 : H l = some (.lst xs)) (h0 : 0 ≤ k) (hk : k ≤ 100000) (hz : xs.length * k.toNat ≤ 1000000) (h : NewO (.lst (List.replicate k.toNat xs).flatten) H Q) : mRep (.ref l) (.int k) H Q := by
  unfold mRep
  exact ⟨l, k, xs, rfl, rfl, h1, h0, hk, hz, h⟩
def mMin3 : List V → Hp → VK → Prop := fun vs H Q => ∃ i j k, vs = [.int i, .int j, .int k] ∧ Q (.int (min (min i j) k)) H
theorem call_min3M {X : Cx} (hc : X.calm = true) : CallR X (.builtin "min") mMin3 := fun pins s σ H xs us Q I r ⟨i, j, k, e, q⟩ => call_min3Nu hc pins s σ H xs us Q I r ⟨_, _, _, _, e, by
  show (Option.map (fun c => if c = true then V.int j else V.int i) (some (decide (j < i)))).bind _ = _
  by_cases h : j < i
  · rw [decide_eq_true h]
    show Option.map (fun c => if c = true then V.int k else V.int j) (some (decide (k < j))) = some (.int (min (min i j) k))
    by_cases h2 : k < j
    · rw [decide_eq_true h2]
      show some (V.int k) = _
      congr 2
      omega
    · rw [decide_eq_false h2]
      show some (V.int j) = _
      congr 2
      omega
  · rw [decide_eq_false h]
    show Option.map (fun c => if c = true then V.int k else V.int i) (some (decide (k < i))) = some (.int (min (min i j) k))
    by_cases h2 : k < i
    · rw [decide_eq_true h2]
      show some (V.int k) = _
      congr 2
      omega
    · rw [decide_eq_false h2]
      show some (V.int i) = _
      congr 2
      omega, q⟩
/-! ### comprehensions whose elements are new tuples -/
def EltT (te : TE) (σ : L2.St) (H : Hp) (xs : List V) : Prop := ∀ H', Same H H' → te σ H' fun v H'' => Same H' H'' ∧ ∃ p, v = .ref p ∧ H'' p = some (.tup xs)
def NewTs (n : Nat) (f : Nat → List V) (H : Hp) (Q : VK) : Prop := ∀ (D : Addr) (H' : Hp) (ps : List Addr), H D = none → Same H H' → H' D = some (.lst (ps.map V.ref)) → ps.length = n → (∀ i p, ps[i]? = some p → H' p = some (.tup (f i))) → Q (.ref D) H'
@[irreducible] def mLcTR3 (ta : TA) (j : Nat) (te : TE) (vs : List Nat) : TE := fun σ H Q => ta σ H fun ws H1 => ∃ (lo hi c : Int) (n : Nat) (f : Nat → List V), ws = [.int lo, .int hi, .int c] ∧ RgC lo hi c n ∧ n ≤ 1000 ∧ (∀ i, i < n → EltT te ((wipe σ vs).set j (some (.int (lo + (i : Nat) * c)))) H1 (f i)) ∧ NewTs n f H1 Q
theorem rd_lcTR3 {ta : TA} {j : Nat} {te : TE} {vs : List Nat} {σ : L2.St} {H : Hp} {Q : VK} (h : ta σ H fun ws H1 => ∃ (lo hi c : Int) (n : Nat) (f : Nat → List V), ws = [.int lo, .int hi, .int c] ∧ RgC lo hi c n ∧ n ≤ 1000 ∧ (∀ i, i < n → EltT te ((wipe σ vs).set j (some (.int (lo + (i : Nat) * c)))) H1 (f i)) ∧ NewTs n f H1 Q) : mLcTR3 ta j te vs σ H Q := by
  unfold mLcTR3
  exact h
@[irreducible] def mLcTL (K : PySem.W.Frag) (tl : TE) (j : Nat) (te : TE) (vs : List Nat) : TE := fun σ H Q => tl σ H fun x H1 => ∃ (a : Addr) (xs : List V) (f : Nat → List V), x = .ref a ∧ SqL K H1 a xs ∧ xs.length ≤ 1000 ∧ (∀ i y, xs[i]? = some y → EltT te ((wipe σ vs).set j (some y)) H1 (f i)) ∧ NewTs xs.length f H1 Q
theorem rd_lcTL {K : PySem.W.Frag} {tl : TE} {j : Nat} {te : TE} {vs : List Nat} {σ : L2.St} {H : Hp} {Q : VK} (h : tl σ H fun x H1 => ∃ (a : Addr) (xs : List V) (f : Nat → List V), x = .ref a ∧ SqL K H1 a xs ∧ xs.length ≤ 1000 ∧ (∀ i y, xs[i]? = some y → EltT te ((wipe σ vs).set j (some y)) H1 (f i)) ∧ NewTs xs.length f H1 Q) : mLcTL K tl j te vs σ H Q := by
  unfold mLcTL
  exact h
def TsW (H1 : Hp) (D : Addr) (f : Nat → List V) (i : Nat) (H' : Hp) : Prop := Same H1 H' ∧ ∃ ps : List Addr, H' D = some (.lst (ps.map V.ref)) ∧ ps.length = i ∧ ∀ k p, ps[k]? = some p → H' p = some (.tup (f k))
theorem TsW.next {H1 H' H'' : Hp} {D p : Addr} {f : Nat → List V} {i : Nat} (hD : H1 D = none) (w : TsW H1 D f i H') (s : Same H' H'') (hp : H'' p = some (.tup (f i))) : ∃ acc, H'' D = some (.lst acc) ∧ acc.length = i ∧ TsW H1 D f (i + 1) (upd H'' D (.lst (acc ++ [.ref p]))) := by
  obtain ⟨sm, ps, hd, hl, ht⟩ := w
  have hd2 := s _ _ hd
  have ne : ∀ {q : Addr} {xs : List V}, H'' q = some (.tup xs) → q ≠ D := fun {q xs} h e => by
    rw [e, hd2] at h
    cases h
  refine ⟨_, hd2, by rw [List.length_map, hl], same_mut (sm.trans s) hD, ps ++ [p], ?_, by rw [List.length_append, List.length_singleton, hl], fun k q hk => ?_⟩
  · rw [upd_same, List.map_append]
    rfl
  · by_cases h : k < ps.length
    · rw [List.getElem?_append_left h] at hk
      have := s _ _ (ht k q hk)
      rw [upd_ne (ne this)]
      exact this
    · rw [List.getElem?_append_right (by omega)] at hk
      have h0 : k - ps.length = 0 := by
        cases e : k - ps.length with
        | zero => rfl
        | succ m => rw [e] at hk; simp at hk
      rw [h0] at hk
      have e : p = q := Option.some.inj hk
      have ek : k = i := by omega
      subst e
      rw [ek, upd_ne (ne hp)]
      exact hp
section
variable {X : Cx} {te : TE} {ta : TA} {pos : Pos}
theorem lcTR3_of {ta : TA} {j : Nat} {te : TE} {vs : List Nat} {σ : L2.St} {H : Hp} {Q : VK} (hj : vs = [j]) (q : mLcTR3 ta j te vs σ H Q) : tLc (iRng3 (cTA ta)) (gName j) tYes (cTE te) vs σ H Q := by
  unfold mLcTR3 at q
  refine ⟨_, q, fun ws H1 r => ?_⟩
  obtain ⟨lo, hi, c, n, f, rfl, hr, hn, he, hq⟩ := r
  refine ⟨lo, hi, c, n, rfl, hr, fun D hD => ?_⟩
  refine ⟨fun i m H' => m = n - i ∧ i ≤ n ∧ TsW H1 D f i H', ⟨n, rfl, Nat.zero_le _, same_upd hD, [], upd_same, rfl, fun k p h => by cases h⟩, ?_⟩
  rintro i m H' ⟨rfl, hi, w⟩
  by_cases hlt : i < n
  · refine .inr ⟨hlt, TsW H1 D f (i + 1), fun H2 w2 => ⟨n - (i + 1), by omega, rfl, hlt, w2⟩, fun x H2 y => ?_⟩
    obtain ⟨e, y⟩ := y
    subst e
    subst y
    refine ⟨wipe_set hj, _, he i hlt _ w.1, fun v H'' r => ?_⟩
    obtain ⟨s, p, rfl, hp⟩ := r
    obtain ⟨acc, h1, h2, h3⟩ := w.next hD s hp
    exact ⟨acc, h1, szl (by omega), h3⟩
  · have e : i = n := by omega
    subst e
    obtain ⟨sm, ps, hd, hl, ht⟩ := w
    exact .inl ⟨Nat.le_refl _, hq D H' ps hD sm hd hl ht⟩
theorem lcTL_of {K : PySem.W.Frag} {tl : TE} {j : Nat} {te : TE} {vs : List Nat} {σ : L2.St} {H : Hp} {Q : VK} (hj : vs = [j]) (q : mLcTL K tl j te vs σ H Q) : tLc (iList K (cTE tl)) (gName j) tYes (cTE te) vs σ H Q := by
  unfold mLcTL at q
  refine ⟨_, q, fun x H1 r => ?_⟩
  obtain ⟨a, xs, f, rfl, hx, hn, he, hq⟩ := r
  refine ⟨a, rfl, ⟨xs, hx⟩, fun D hD => ?_⟩
  refine lc_list (xs := xs) (fun i H' => TsW H1 D f i H') ⟨same_upd hD, [], upd_same, rfl, fun k p h => by cases h⟩ (fun i H' _ w => w.1.seq hx) (fun i y H' hi w => ⟨wipe_set hj, _, he i y hi H' w.1, fun v H'' r => ?_⟩) fun H' w => ?_
  · obtain ⟨s, p, rfl, hp⟩ := r
    obtain ⟨acc, h1, h2, h3⟩ := w.next hD s hp
    have hl : i < xs.length := (List.getElem?_eq_some_iff.mp hi).1
    exact ⟨acc, h1, szl (by omega), h3⟩
  · obtain ⟨sm, ps, hd, hl, ht⟩ := w
    exact hq D H' ps hD sm hd hl ht
theorem pe_lcTL {elt it : Expr} {scope : Scope} {j : Nat} {x : Str} {xpos : Pos} (hc : X.calm = true) (hN : X.N.Nodup) {tl : TE} (ha : PE X it tl) (ok : BlkOk X.N X.env.scope scope [(x, j)])
    (hgt : ∀ (s : Shared) (H : Hp) (C : Addr) (cl : List (Str × Addr)) (fp : List Addr), PG (X.blk s H scope (compEnvC scope cl C X.env) fp) (.Name x xpos) (gName j))
    (he : ∀ (s : Shared) (H : Hp) (C : Addr) (cl : List (Str × Addr)) (fp : List Addr), PE (X.blk s H scope (compEnvC scope cl C X.env) fp) elt te) (hs2 : ∀ y, foldedSetIterable it X.env y = pure y := by intro _; rfl) :
    PE X (.ListComp elt [⟨.Name x xpos, it, [], 0⟩] scope pos) (mLcTL X.K tl j te [j]) :=
  pe_weak (pe_lc hc hN (pi_list (pe_c ha)) ok hgt (fun _ _ _ _ _ => pts_nil) (fun s H C cl fp => pe_c (he s H C cl fp)) hs2) fun _ _ _ q => lcTL_of rfl q
theorem ps_setLcTL {i : Nat} {y : Str} {py spos : Pos} {elt it : Expr} {scope : Scope} {j : Nat} {x : Str} {xpos : Pos} {tl : TE} (hc : X.calm = true) (hN : X.N.Nodup) (hy : X.N[i]? = some y) (hyl : X.env.scope.names.lookup y = some .local)
    (hsw : swapsWith (.ListComp elt [⟨.Name x xpos, it, [], 0⟩] scope pos) (some (.Name y py)) spos.line X.env = pure true) (ha : PE X it tl) (ok : BlkOk X.N X.env.scope scope [(x, j)])
    (hgt : ∀ (s : Shared) (H : Hp) (C : Addr) (cl : List (Str × Addr)) (fp : List Addr), PG (X.blk s H scope (compEnvC scope cl C X.env) fp) (.Name x xpos) (gName j))
    (he : ∀ (s : Shared) (H : Hp) (C : Addr) (cl : List (Str × Addr)) (fp : List Addr), PE (X.blk s H scope (compEnvC scope cl C X.env) fp) elt te) (hs2 : ∀ y, foldedSetIterable it X.env y = pure y := by intro _; rfl) :
    PS X (.Assign [.Name y py] (.ListComp elt [⟨.Name x xpos, it, [], 0⟩] scope pos) spos) (tAsg (mLcTL X.K tl j te [j]) (gName i)) :=
  ps_weak (ps_setLc hc hN hy hyl hsw (pi_list (pe_c ha)) ok hgt (fun _ _ _ _ _ => pts_nil) (fun s H C cl fp => pe_c (he s H C cl fp)) hs2) fun _ _ _ q => lcTL_of rfl q
theorem ps_setLcTR3 {i : Nat} {y : Str} {py spos : Pos} {elt : Expr} {scope : Scope} {j : Nat} {x : Str} {a b c : Expr} {p p2 xpos : Pos} (hc : X.calm = true) (hN : X.N.Nodup) (hy : X.N[i]? = some y) (hyl : X.env.scope.names.lookup y = some .local)
    (hsw : swapsWith (.ListComp elt [⟨.Name x xpos, .Call (.Name "range" p) [a, b, c] [] p2, [], 0⟩] scope pos) (some (.Name y py)) spos.line X.env = pure true) (hg : Gl X "range") (hm : X.mg "range" = none) (ha : PA X [a, b, c] ta) (ok : BlkOk X.N X.env.scope scope [(x, j)])
    (hgt : ∀ (s : Shared) (H : Hp) (C : Addr) (cl : List (Str × Addr)) (fp : List Addr), PG (X.blk s H scope (compEnvC scope cl C X.env) fp) (.Name x xpos) (gName j))
    (he : ∀ (s : Shared) (H : Hp) (C : Addr) (cl : List (Str × Addr)) (fp : List Addr), PE (X.blk s H scope (compEnvC scope cl C X.env) fp) elt te)
    (hs : starEach [a, b, c] X.env = (false, eval a X.env) :: starEach [b, c] X.env := by rfl) (hpl : (backTo p2 (starEach [b, c] X.env)).any (·.1) = false := by rfl) (hs2 : ∀ y, foldedSetIterable (.Call (.Name "range" p) [a, b, c] [] p2) X.env y = pure y := by intro _; rfl) :
    PS X (.Assign [.Name y py] (.ListComp elt [⟨.Name x xpos, .Call (.Name "range" p) [a, b, c] [] p2, [], 0⟩] scope pos) spos) (tAsg (mLcTR3 ta j te [j]) (gName i)) :=
  ps_weak (ps_setLc hc hN hy hyl hsw (pi_range3 hg hm (pa_c ha) hs hpl) ok hgt (fun _ _ _ _ _ => pts_nil) (fun s H C cl fp => pe_c (he s H C cl fp)) hs2) fun _ _ _ q => lcTR3_of rfl q
end

/-! ### the same rules within a comprehension: the written part by its own name -/
section
variable {X : Cx} {K : PySem.W.Frag}
theorem ix_listK (h : X.K = K) : IxR X (mIxL K) := h ▸ ix_listM
theorem ix_tupK (h : X.K = K) : IxR X (mIxT K) := h ▸ ix_tupM
theorem call_lenK (h : X.K = K) : CallR X (.builtin "len") (mLen K) := h ▸ call_lenM
end

theorem br_nonI {x : Int} {A B : Prop} (h : B) : Br (decide (V.int x = V.non)) A B := br_f (fun e => by cases e) h
theorem br_nonR {x : Addr} {A B : Prop} (h : B) : Br (decide (V.ref x = V.non)) A B := br_f (fun e => by cases e) h
theorem br_nonN {A B : Prop} (h : A) : Br (decide (V.non = V.non)) A B := br_t rfl h
theorem dec_nonI {x : Int} : decide (V.int x = V.non) = false := decide_eq_false fun e => by cases e
theorem dec_nonR {x : Addr} : decide (V.ref x = V.non) = false := decide_eq_false fun e => by cases e

/-! ### if t: x = e, told once by what x holds behind it -/
@[irreducible] def IfSet (b : Bool) (te : TE) (i : Nat) (D : Ends) (σ : L2.St) (H : Hp) : Prop := ∃ P : V → Hp → Prop, (b = true → te σ H P) ∧ (b = false → ∃ v, σ.set i (some v) = σ ∧ P v H) ∧ ∀ v H', P v H' → D.nx (σ.set i (some v)) H'
theorem rd_ifSet {b : Bool} {te : TE} {i : Nat} {D : Ends} {σ : L2.St} {H : Hp} (P : V → Hp → Prop) (h1 : b = true → te σ H P) (h2 : b = false → ∃ v, σ.set i (some v) = σ ∧ P v H) (k : ∀ v H', P v H' → D.nx (σ.set i (some v)) H') : IfSet b te i D σ H := by
  unfold IfSet
  exact ⟨P, h1, h2, k⟩
def mIfSet (tt : TT) (te : TE) (i : Nat) : TS := fun D σ H => tt σ H fun b H1 => IfSet b te i D σ H1
theorem ps_ifSet {X : Cx} {i : Nat} {x : Str} {c e : Expr} {tt : TT} {te : TE} {pos pos2 pos' : Pos} (hc : PT X c tt) (hN : X.N.Nodup) (hi : X.N[i]? = some x) (hx : Loc X.env.scope x) (he : PE X e te) (hs : swapsWith e (some (.Name x pos')) pos2.line X.env = pure false := by rfl)
    (hf : X.fn x = true ∨ X.env.scope.names.lookup x = some .local := by first | exact .inl rfl | exact .inr rfl | assumption) : PS X (.If c [.Assign [.Name x pos'] e pos2] [] pos) (mIfSet tt te i) :=
  ps_weak (ps_if (pt_c hc) (pss_one (ps_set (i := i) hN hi hx (pe_c he) hs hf)) pss_nil) fun D σ H q => ⟨_, q, fun b H1 r => by
    unfold IfSet at r
    obtain ⟨P, h1, h2, k⟩ := r
    cases b with
    | true => exact iteT ⟨P, h1 rfl, fun v H' p => k v H' p⟩
    | false =>
      obtain ⟨v, e, p⟩ := h2 rfl
      refine iteF ?_
      have := k v H1 p
      rw [e] at this
      exact this⟩
section
variable {X : Cx}
/-- what stands in a list at a whole number, as the store in place reads it -/
theorem get_listM : PGet X (mIxL X.K) := fun pins s σ H x y vx vy Q inv rx ry h => by
  unfold mIxL at h
  obtain ⟨p, xs, k, z, rfl, rfl, hsq, hat, q⟩ := h
  cases rx
  obtain ⟨tk, rfl⟩ := ry
  obtain ⟨its, rel, plain, _⟩ := inv.list hsq
  obtain ⟨j, hj, hget, hn, hlo, hhi⟩ := atI_get hat
  obtain ⟨wv, hwv, relz⟩ := rel.get hget
  have hlen := rel.length
  have h63 := line63
  by_cases hk : 0 ≤ k
  · have ej : k.toNat = j := by
      rw [seqIndex_of hk hhi] at hj
      exact Option.some.inj hj
    exact wpAny_getItem_list plain.isList hk (by omega) (by rw [ej]; simpa using hwv) ⟨z, H, inv, relz, q⟩
  · have ej : (k + (its.toArray.size : Int)).toNat = j := by
      rw [seqIndex_neg (by omega) hlo] at hj
      rw [List.size_toArray, ← hlen]
      exact Option.some.inj hj
    exact wpAny_getItem_list_neg plain.isList (by omega) (by rw [List.size_toArray]; omega) (by omega) (by rw [ej]; simpa using hwv) ⟨z, H, inv, relz, q⟩
end
section
variable {X : Cx} {te : TE} {ta : TA} {pos : Pos}
/-- [(…) for x in range(n)] -/
@[irreducible] def mLcTR1 (ta : TA) (j : Nat) (te : TE) (vs : List Nat) : TE := fun σ H Q => ta σ H fun ws H1 => ∃ (n : Int) (f : Nat → List V), ws = [.int n] ∧ (-100000 ≤ n ∧ n ≤ 100000) ∧ (∀ i, i < n.toNat → EltT te ((wipe σ vs).set j (some (.int (i : Nat)))) H1 (f i)) ∧ NewTs n.toNat f H1 Q
theorem rd_lcTR1 {ta : TA} {j : Nat} {te : TE} {vs : List Nat} {σ : L2.St} {H : Hp} {Q : VK} (h : ta σ H fun ws H1 => ∃ (n : Int) (f : Nat → List V), ws = [.int n] ∧ (-100000 ≤ n ∧ n ≤ 100000) ∧ (∀ i, i < n.toNat → EltT te ((wipe σ vs).set j (some (.int (i : Nat)))) H1 (f i)) ∧ NewTs n.toNat f H1 Q) : mLcTR1 ta j te vs σ H Q := by
  unfold mLcTR1
  exact h
theorem lcTR1_of {ta : TA} {j : Nat} {te : TE} {vs : List Nat} {σ : L2.St} {H : Hp} {Q : VK} (hj : vs = [j]) (q : mLcTR1 ta j te vs σ H Q) : tLc (iRng1 (cTA ta)) (gName j) tYes (cTE te) vs σ H Q := by
  unfold mLcTR1 at q
  refine ⟨_, q, fun ws H1 r => ?_⟩
  obtain ⟨n, f, rfl, ⟨hn0, hn⟩, he, hq⟩ := r
  have big : (2 : Int) ^ 62 = 4611686018427387904 := by decide
  refine ⟨n, rfl, by omega, by omega, fun D hD => ?_⟩
  refine lc_range (lo := 0) (n := n.toNat) (fun i H' => TsW H1 D f i H') ⟨same_upd hD, [], upd_same, rfl, fun k p h => by cases h⟩ (fun i H' hi w => ⟨wipe_set hj, ?_⟩) fun H' w => ?_
  · show cTE te ((wipe σ vs).set j (some (.int (0 + (i : Int))))) H' _
    rw [Int.zero_add]
    refine ⟨_, he i hi H' w.1, fun v H'' r => ?_⟩
    obtain ⟨s, p, rfl, hp⟩ := r
    obtain ⟨acc, h1, h2, h3⟩ := w.next hD s hp
    exact ⟨acc, h1, szl (by omega), h3⟩
  · obtain ⟨sm, ps, hd, hl, ht⟩ := w
    exact hq D H' ps hD sm hd hl ht
theorem ps_setLcTR1 {i : Nat} {y : Str} {py spos : Pos} {elt : Expr} {scope : Scope} {j : Nat} {x : Str} {a : Expr} {p p2 xpos : Pos} (hc : X.calm = true) (hN : X.N.Nodup) (hy : X.N[i]? = some y) (hyl : X.env.scope.names.lookup y = some .local)
    (hsw : swapsWith (.ListComp elt [⟨.Name x xpos, .Call (.Name "range" p) [a] [] p2, [], 0⟩] scope pos) (some (.Name y py)) spos.line X.env = pure true) (hg : Gl X "range") (hm : X.mg "range" = none) (ha : PA X [a] ta) (ok : BlkOk X.N X.env.scope scope [(x, j)])
    (hgt : ∀ (s : Shared) (H : Hp) (C : Addr) (cl : List (Str × Addr)) (fp : List Addr), PG (X.blk s H scope (compEnvC scope cl C X.env) fp) (.Name x xpos) (gName j))
    (he : ∀ (s : Shared) (H : Hp) (C : Addr) (cl : List (Str × Addr)) (fp : List Addr), PE (X.blk s H scope (compEnvC scope cl C X.env) fp) elt te)
    (hs : starEach [a] X.env = [(false, eval a X.env)] := by rfl) (hs2 : ∀ y, foldedSetIterable (.Call (.Name "range" p) [a] [] p2) X.env y = pure y := by intro _; rfl) :
    PS X (.Assign [.Name y py] (.ListComp elt [⟨.Name x xpos, .Call (.Name "range" p) [a] [] p2, [], 0⟩] scope pos) spos) (tAsg (mLcTR1 ta j te [j]) (gName i)) :=
  ps_weak (ps_setLc hc hN hy hyl hsw (pi_range1 hg hm (pa_c ha) hs) ok hgt (fun _ _ _ _ _ => pts_nil) (fun s H C cl fp => pe_c (he s H C cl fp)) hs2) fun _ _ _ q => lcTR1_of rfl q
end
/-! ### a comprehension over any walk, its elements values, some left out -/
def IMono (wi' wi : TI) : Prop := ∀ (σ : L2.St) (H : Hp) (R R' : It → Hp → Prop), (∀ J H', R J H' → R' J H') → wi' σ H R → wi σ H R'
section
variable {K : PySem.W.Frag}
theorem im_zip {ta : TA} : IMono (iZip K ta) (iZip K (cTA ta)) := fun σ H R R' h q => ⟨_, q, fun v H' r => by
  obtain ⟨a, b, xs, ys, e, h1, h2, r⟩ := r
  exact ⟨a, b, xs, ys, e, h1, h2, h _ _ r⟩⟩
theorem im_enum {ta : TA} : IMono (iEnum K ta) (iEnum K (cTA ta)) := fun σ H R R' h q => ⟨_, q, fun v H' r => by
  obtain ⟨a, xs, e, h1, r⟩ := r
  exact ⟨a, xs, e, h1, h _ _ r⟩⟩
theorem im_list {tl : TE} : IMono (iList K tl) (iList K (cTE tl)) := fun σ H R R' h q => ⟨_, q, fun v H' r => by
  obtain ⟨a, e, h1, r⟩ := r
  exact ⟨a, e, h1, h _ _ r⟩⟩
theorem im_tup {tl : TE} : IMono (iTup K tl) (iTup K (cTE tl)) := fun σ H R R' h q => ⟨_, q, fun v H' r => by
  obtain ⟨a, e, h1, r⟩ := r
  exact ⟨a, e, h1, h _ _ r⟩⟩
theorem im_rng1 {ta : TA} : IMono (iRng1 ta) (iRng1 (cTA ta)) := fun σ H R R' h q => ⟨_, q, fun v H' r => by
  obtain ⟨j, e, h1, h2, r⟩ := r
  exact ⟨j, e, h1, h2, h _ _ r⟩⟩
theorem im_rng2 {ta : TA} : IMono (iRng2 ta) (iRng2 (cTA ta)) := fun σ H R R' h q => ⟨_, q, fun v H' r => by
  obtain ⟨i, j, e, h1, r⟩ := r
  exact ⟨i, j, e, h1, h _ _ r⟩⟩
end
/-- the new list at D behind i turns -/
structure LcP (H1 : Hp) (D : Addr) (keep : Nat → Bool) (f : Nat → V) (i : Nat) (H' : Hp) : Prop where
  sm : Same H1 H'
  at' : H' D = some (.lst (((List.range i).filter keep).map f))
def LcN (H1 : Hp) (D : Addr) (keep : Nat → Bool) (f : Nat → V) (i : Nat) (y : V) (H4 : Hp) : Prop := ∃ acc, H4 D = some (.lst acc) ∧ acc.length < sizeLine ∧ LcP H1 D keep f (i + 1) (upd H4 D (.lst (acc ++ [y])))
theorem LcP.put {H1 H' H4 : Hp} {D : Addr} {keep : Nat → Bool} {f : Nat → V} {i : Nat} {y : V} (p : LcP H1 D keep f i H') (hD : H1 D = none) (hi : i < 100000) (s : Same H' H4) (hk : keep i = true) (e : y = f i) : LcN H1 D keep f i y H4 := by
  refine ⟨_, s _ _ p.at', ?_, same_mut (p.sm.trans s) hD, ?_⟩
  · have h1 := List.length_filter_le keep (List.range i)
    rw [List.length_range] at h1
    rw [List.length_map]
    exact szl (by omega)
  · rw [upd_same, List.range_succ, List.filter_append, List.map_append, e]
    have e2 : [i].filter keep = [i] := by
      rw [List.filter_cons, if_pos hk]
      rfl
    rw [e2]
    rfl
theorem LcP.skip {H1 H' H4 : Hp} {D : Addr} {keep : Nat → Bool} {f : Nat → V} {i : Nat} (p : LcP H1 D keep f i H') (s : Same H' H4) (hk : keep i = false) : LcP H1 D keep f (i + 1) H4 := by
  refine ⟨p.sm.trans s, ?_⟩
  rw [s _ _ p.at', List.range_succ, List.filter_append]
  have e2 : [i].filter keep = [] := by
    rw [List.filter_cons, if_neg (by rw [hk]; decide)]
    rfl
  rw [e2, List.append_nil]
@[irreducible] def mLcP (wi : TI) (g : TG) (tt : TT) (te : TE) (vs : List Nat) : TE := fun σ H Q => wi σ H fun J H1 => ∃ (n : Nat) (G : Hp → Prop) (Y : Nat → Hp → V → Hp → Prop) (keep : Nat → Bool) (f : Nat → V), Walk J n G Y ∧ n ≤ 100000 ∧ (∀ H', Same H1 H' → G H') ∧
  (∀ D, H1 D = none → ∀ i x H' H'', i < n → LcP H1 D keep f i H' → Y i H' x H'' → g x (wipe σ vs) H'' fun σ2 H2 => wipe σ2 vs = wipe σ vs ∧ tt σ2 H2 fun b H3 => Br b (te σ2 H3 fun y H4 => LcN H1 D keep f i y H4) (LcP H1 D keep f (i + 1) H3)) ∧ NewO (.lst (((List.range n).filter keep).map f)) H1 Q
theorem rd_lcP {wi : TI} {g : TG} {tt : TT} {te : TE} {vs : List Nat} {σ : L2.St} {H : Hp} {Q : VK} (h : wi σ H fun J H1 => ∃ (n : Nat) (G : Hp → Prop) (Y : Nat → Hp → V → Hp → Prop) (keep : Nat → Bool) (f : Nat → V), Walk J n G Y ∧ n ≤ 100000 ∧ (∀ H', Same H1 H' → G H') ∧
  (∀ D, H1 D = none → ∀ i x H' H'', i < n → LcP H1 D keep f i H' → Y i H' x H'' → g x (wipe σ vs) H'' fun σ2 H2 => wipe σ2 vs = wipe σ vs ∧ tt σ2 H2 fun b H3 => Br b (te σ2 H3 fun y H4 => LcN H1 D keep f i y H4) (LcP H1 D keep f (i + 1) H3)) ∧ NewO (.lst (((List.range n).filter keep).map f)) H1 Q) : mLcP wi g tt te vs σ H Q := by
  unfold mLcP
  exact h
def cTG (g : TG) : TG := fun v σ H Q => ∃ R : L2.St → Hp → Prop, g v σ H R ∧ ∀ σ' H', R σ' H' → Q σ' H'
section
variable {X : Cx} {e tg : Expr} {ifs : List Expr} {g : TG} {tt : TT} {te : TE}
theorem pg_c (h : PG X tg g) : PG X tg (cTG g) := ⟨fun pins s σ H v u Q I r ⟨R, h1, h2⟩ => wpAny_mono (h.run pins s σ H v u R I r h1) (fun _ s1 ⟨σ1, H1, I1, q⟩ => ⟨σ1, H1, I1, h2 _ _ q⟩) fun _ _ z => z⟩
theorem pts_c (h : PTs X ifs tt) : PTs X ifs (cTT tt) := ⟨fun pins s σ H Q I ⟨R, h1, h2⟩ => wpAny_mono (h.run pins s σ H R I h1) (fun _ s1 ⟨H1, I1, q⟩ => ⟨H1, I1, h2 _ _ q⟩) fun _ _ z => z⟩
theorem lcP_of {wi wi' : TI} {vs : List Nat} {σ : L2.St} {H : Hp} {Q : VK} (hw : IMono wi' wi) (q : mLcP wi' g tt te vs σ H Q) : tLc wi (cTG g) (cTT tt) (cTE te) vs σ H Q := by
  unfold mLcP at q
  refine hw _ _ _ _ (fun J H1 r => ?_) q
  obtain ⟨n, G, Y, keep, f, w, hn, hG, ht, hq⟩ := r
  intro D hD
  refine lc_it w (LcP H1 D keep f) ⟨same_upd hD, upd_same⟩ (fun i H' _ p => hG H' p.sm) (fun i x H' H'' hi p y => ?_) fun H' p => hq D H' hD p.sm p.at'
  refine ⟨_, ht D hD i x H' H'' hi p y, fun σ2 H2 r => ⟨r.1, _, r.2, fun b H3 r => ?_⟩⟩
  cases b with
  | true => exact iteT ⟨_, (r.un : if true = true then _ else _), fun y H4 z => z⟩
  | false => exact iteF (r.un : if false = true then _ else _)
theorem pe_lcP {iter elt : Expr} {scope : Scope} {own : List (Str × Nat)} {pos : Pos} {wi wi' : TI} (vs : List Nat) (hw : IMono wi' wi) (hc : X.calm = true) (hN : X.N.Nodup) (hi : PI X tg iter wi) (ok : BlkOk X.N X.env.scope scope own)
    (hg : ∀ (s : Shared) (H : Hp) (C : Addr) (cl : List (Str × Addr)) (fp : List Addr), PG (X.blk s H scope (compEnvC scope cl C X.env) fp) tg g) (ht : ∀ (s : Shared) (H : Hp) (C : Addr) (cl : List (Str × Addr)) (fp : List Addr), PTs (X.blk s H scope (compEnvC scope cl C X.env) fp) ifs tt)
    (he : ∀ (s : Shared) (H : Hp) (C : Addr) (cl : List (Str × Addr)) (fp : List Addr), PE (X.blk s H scope (compEnvC scope cl C X.env) fp) elt te) (hvs : own.map (·.2) = vs := by rfl) (hs : ∀ x, foldedSetIterable iter X.env x = pure x := by intro _; rfl) :
    PE X (.ListComp elt [⟨tg, iter, ifs, 0⟩] scope pos) (mLcP wi' g tt te vs) :=
  pe_weak (pe_lc hc hN hi ok (fun s H C cl fp => pg_c (hg s H C cl fp)) (fun s H C cl fp => pts_c (ht s H C cl fp)) (fun s H C cl fp => pe_c (he s H C cl fp)) hs) fun _ _ _ q => by
    rw [hvs]
    exact lcP_of hw q
theorem ps_setLcP {i : Nat} {y : Str} {py : Pos} {iter elt : Expr} {scope : Scope} {own : List (Str × Nat)} {pos spos : Pos} {wi wi' : TI} (vs : List Nat) (hw : IMono wi' wi) (hc : X.calm = true) (hN : X.N.Nodup) (hy : X.N[i]? = some y) (hyl : X.env.scope.names.lookup y = some .local)
    (hsw : swapsWith (.ListComp elt [⟨tg, iter, ifs, 0⟩] scope pos) (some (.Name y py)) spos.line X.env = pure true) (hi : PI X tg iter wi) (ok : BlkOk X.N X.env.scope scope own)
    (hg : ∀ (s : Shared) (H : Hp) (C : Addr) (cl : List (Str × Addr)) (fp : List Addr), PG (X.blk s H scope (compEnvC scope cl C X.env) fp) tg g) (ht : ∀ (s : Shared) (H : Hp) (C : Addr) (cl : List (Str × Addr)) (fp : List Addr), PTs (X.blk s H scope (compEnvC scope cl C X.env) fp) ifs tt)
    (he : ∀ (s : Shared) (H : Hp) (C : Addr) (cl : List (Str × Addr)) (fp : List Addr), PE (X.blk s H scope (compEnvC scope cl C X.env) fp) elt te) (hvs : own.map (·.2) = vs := by rfl) (hs : ∀ x, foldedSetIterable iter X.env x = pure x := by intro _; rfl) :
    PS X (.Assign [.Name y py] (.ListComp elt [⟨tg, iter, ifs, 0⟩] scope pos) spos) (tAsg (mLcP wi' g tt te vs) (gName i)) :=
  ps_weak (ps_setLc hc hN hy hyl hsw hi ok (fun s H C cl fp => pg_c (hg s H C cl fp)) (fun s H C cl fp => pts_c (ht s H C cl fp)) (fun s H C cl fp => pe_c (he s H C cl fp)) hs) fun _ _ _ q => by
    rw [hvs]
    exact lcP_of hw q
end
theorem wipe2 {σ : L2.St} {i j : Nat} {x y : Option V} (h : i ≠ j) : wipe (((wipe σ [i, j]).set i x).set j y) [i, j] = wipe σ [i, j] := by
  show (((((σ.set j none).set i none).set i x).set j y).set j none).set i none = (σ.set j none).set i none
  have e : ∀ (z : Option V), ((σ.set j none).set i z).set j none = (σ.set j none).set i z := fun z => by rw [List.set_comm _ _ h, List.set_set]
  rw [List.set_set, List.set_set, e, List.set_set]
/-! ### slices; lists of whole numbers compared -/
theorem sIx_nn {n d : Nat} {k : Int} (h : 0 ≤ k) : HT.sIx n d (some k) = min k.toNat n := by
  show (if k < 0 then (k + (n : Int)).toNat else min k.toNat n) = _
  rw [if_neg (by omega)]
theorem sIx_neg {n d : Nat} {k : Int} (h : k < 0) : HT.sIx n d (some k) = (k + (n : Int)).toNat := by
  show (if k < 0 then (k + (n : Int)).toNat else min k.toNat n) = _
  rw [if_pos h]
theorem drop_min {α : Type} (xs : List α) (k : Nat) : xs.drop (min k xs.length) = xs.drop k := by
  by_cases h : k ≤ xs.length
  · rw [Nat.min_eq_left h]
  · rw [Nat.min_eq_right (by omega), List.drop_of_length_le (Nat.le_refl _), List.drop_of_length_le (by omega)]
theorem take_all {α : Type} (xs : List α) {k m : Nat} (h : xs.length ≤ k) (h2 : xs.length ≤ m) : xs.take k = xs.take m := by
  rw [List.take_of_length_le h, List.take_of_length_le h2]
theorem cutX_from {xs : List V} {k : Int} (h : 0 ≤ k) : cutV xs (some k) none = xs.drop k.toNat := by
  unfold cutV
  rw [HT.sIx_none, sIx_nn h, drop_min]
  refine List.take_of_length_le ?_
  rw [List.length_drop]
  omega
theorem cutX_to {xs : List V} {k : Int} (h : 0 ≤ k) : cutV xs none (some k) = xs.take k.toNat := by
  unfold cutV
  rw [HT.sIx_none, sIx_nn h, List.drop_zero, Nat.sub_zero]
  by_cases h2 : k.toNat ≤ xs.length
  · rw [Nat.min_eq_left h2]
  · exact take_all _ (by omega) (by omega)
theorem cutX_nn {xs : List V} {i j : Int} (h : 0 ≤ i) (h' : 0 ≤ j) : cutV xs (some i) (some j) = (xs.drop i.toNat).take (j.toNat - i.toNat) := by
  unfold cutV
  rw [sIx_nn h, sIx_nn h', drop_min]
  by_cases h2 : j.toNat ≤ xs.length
  · by_cases h3 : i.toNat ≤ xs.length
    · rw [Nat.min_eq_left h2, Nat.min_eq_left h3]
    · rw [List.drop_of_length_le (by omega), List.take_nil, List.take_nil]
  · refine take_all _ ?_ ?_ <;> (rw [List.length_drop]; omega)
theorem cutX_butLast {xs : List V} {i : Int} (h : 0 ≤ i) : cutV xs (some i) (some (-1)) = (xs.drop i.toNat).take (xs.length - 1 - i.toNat) := by
  unfold cutV
  rw [sIx_nn h, sIx_neg (by decide), drop_min]
  have e : (-1 + (xs.length : Int)).toNat = xs.length - 1 := by omega
  rw [e]
  by_cases h3 : i.toNat ≤ xs.length
  · rw [Nat.min_eq_left h3]
  · rw [List.drop_of_length_le (by omega), List.take_nil, List.take_nil]
theorem eqvAll_ints : ∀ ns ms : List Int, PyData.eqvAll (ns.map PyData.int) (ms.map PyData.int) = decide (ns = ms)
  | [], [] => rfl
  | [], _ :: _ => by
    rw [decide_eq_false (by intro e; cases e)]
    rfl
  | _ :: _, [] => by
    rw [decide_eq_false (by intro e; cases e)]
    rfl
  | a :: r, b :: s => by
    rw [List.map_cons, List.map_cons, PyData.eqvAll, eqvAll_ints r s, PyData.eqv]
    by_cases h : a = b
    · subst h
      simp
    · simp [h]
section
variable {K : PySem.W.Frag} {H : Hp} {Q : VK} {a b : Addr}
theorem rd_eqI {ns ms : List Int} (h1 : SqL K H a (ns.map V.int)) (h2 : SqL K H b (ms.map V.int)) (h : Q (.bl (decide (ns = ms))) H) : mEqD K (.ref a) (.ref b) H Q :=
  rd_eqA (n := 1) (m := 1) (.list (ns.map PyData.int)) (.list (ms.map PyData.int)) (dp_ints h1) (dp_ints h2) (sh_lst (sh_ints _)) (sh_lst (sh_ints _)) (by rw [PyData.eqv, eqvAll_ints]; exact h)
theorem rd_neI {ns ms : List Int} (h1 : SqL K H a (ns.map V.int)) (h2 : SqL K H b (ms.map V.int)) (h : Q (.bl (!decide (ns = ms))) H) : mNeD K (.ref a) (.ref b) H Q :=
  rd_neA (n := 1) (m := 1) (.list (ns.map PyData.int)) (.list (ms.map PyData.int)) (dp_ints h1) (dp_ints h2) (sh_lst (sh_ints _)) (sh_lst (sh_ints _)) (by rw [PyData.eqv, eqvAll_ints]; exact h)
end
theorem rd_yes {σ : L2.St} {H : Hp} {Q : Bool → Hp → Prop} (h : Q true H) : tYes σ H Q := h
theorem at_last {ns : List Int} (h : 0 < ns.length) : atI (ns.map V.int) (-1) = some (.int (ns.getD (ns.length - 1) 0)) := by
  have hne : ns ≠ [] := fun e => by
    rw [e] at h
    cases h
  obtain ⟨r, x, rfl⟩ : ∃ r x, ns = r ++ [x] := ⟨ns.dropLast, ns.getLast hne, (List.dropLast_concat_getLast hne).symm⟩
  rw [List.map_append]
  have e : (r ++ [x]).getD ((r ++ [x]).length - 1) 0 = x := by
    rw [List.length_append, List.length_singleton, Nat.add_sub_cancel, List.getD_eq_getElem?_getD, List.getElem?_append_right (Nat.le_refl _), Nat.sub_self]
    rfl
  rw [e]
  exact atI_last _ _
/-- the frame in another form -/
theorem frS {F : L2.St → Hp → Prop} {σ σ' : L2.St} {H : Hp} (e : σ' = σ) (h : F σ' H) : F σ H := e ▸ h
theorem br_xnonI {x : Int} {A B : Prop} (h : A) : Br (!decide (V.int x = V.non)) A B := br_nt (fun e => by cases e) h
theorem br_xnonR {x : Addr} {A B : Prop} (h : A) : Br (!decide (V.ref x = V.non)) A B := br_nt (fun e => by cases e) h
theorem br_xnonN {A B : Prop} (h : B) : Br (!decide (V.non = V.non)) A B := br_nf rfl h
theorem rd_listT {K : PySem.W.Frag} {a : Addr} {xs : List V} {H : Hp} {Q : VK} (h1 : SqT K H a xs) (h : NewO (.lst xs) H Q) : mListOf K [.ref a] H Q := by
  unfold mListOf
  exact ⟨a, xs, rfl, .inr h1, h⟩
/-- tuple(xs) of a list -/
@[irreducible] def mTupOf (K : PySem.W.Frag) : List V → Hp → VK → Prop := fun xs H Q => ∃ p ys, xs = [.ref p] ∧ SqL K H p ys ∧ NewO (.tup ys) H Q
theorem rd_tupOf {K : PySem.W.Frag} {a : Addr} {xs : List V} {H : Hp} {Q : VK} (h1 : SqL K H a xs) (h : NewO (.tup xs) H Q) : mTupOf K [.ref a] H Q := by
  unfold mTupOf
  exact ⟨a, xs, rfl, h1, h⟩
theorem call_tupOfM {X : Cx} : CallR X (.type "tuple") (mTupOf X.K) := fun pins s σ H xs us Q I r q => call_tuple_of pins s σ H xs us Q I r (by
  unfold mTupOf at q
  obtain ⟨a, ys, e1, h1, h⟩ := q
  exact ⟨a, ys, e1, .inl ⟨h1, h.go⟩⟩)
/-! ### own cells: objects that change, beside a world that only grows -/
structure Cells (H B : Hp) (l : List (Addr × HO)) : Prop where
  cell : ∀ a o, (a, o) ∈ l → H a = some o
  nd : (l.map Prod.fst).Nodup
  imm : Same B H
  dis : ∀ a o, (a, o) ∈ l → B a = none
structure Own (S B0 : Hp) (as : List Addr) (B : Hp) (l : List (Addr × HO)) (H : Hp) : Prop where
  c : Cells H B l
  kept : ∀ b o, b ∉ as → S b = some o → H b = some o
  own : ∀ a o, (a, o) ∈ l → a ∈ as ∨ S a = none
  grow : Same B0 B
  new : ∀ b, B0 b = none → B b ≠ none → S b = none
  there : ∀ a, a ∈ as → H a ≠ none
theorem mem_fst {l : List (Addr × HO)} {a : Addr} {o : HO} (h : (a, o) ∈ l) : a ∈ l.map Prod.fst := List.mem_map.mpr ⟨(a, o), h, rfl⟩
theorem fst_mem {l : List (Addr × HO)} {a : Addr} (h : a ∈ l.map Prod.fst) : ∃ o, (a, o) ∈ l := by
  obtain ⟨⟨a', o⟩, h2, rfl⟩ := List.mem_map.mp h
  exact ⟨o, h2⟩
theorem Cells.start {H B : Hp} {l : List (Addr × HO)} (c : Cells H B l) : Own H B (l.map Prod.fst) B l H :=
  ⟨c, fun _ _ _ h => h, fun _ _ h => .inl (mem_fst h), Same.refl _, fun _ h k => absurd h k, fun a h => by
    obtain ⟨o, h⟩ := fst_mem h
    rw [c.cell a o h]
    exact fun e => nomatch e⟩
theorem Own.mk0 {H : Hp} : Own H H [] H [] H := ⟨⟨fun _ _ h => (nomatch h), List.nodup_nil, Same.refl _, fun _ _ h => (nomatch h)⟩, fun _ _ _ h => h, fun _ _ h => (nomatch h), Same.refl _, fun _ h k => absurd h k, fun _ h => (nomatch h)⟩
section
variable {S B0 B H H' : Hp} {as : List Addr} {l : List (Addr × HO)} {p : Addr} {o : HO}
theorem Own.mem (w : Own S B0 as B l H) (h : (p, o) ∈ l) : H p = some o := w.c.cell p o h
theorem Own.imm (w : Own S B0 as B l H) : Same B H := w.c.imm
theorem Own.same (w : Own S B0 [] B l H) : Same S H := fun b o h => w.kept b o (fun z => nomatch z) h
theorem Own.frS (w : Own S B0 as B l H) (n : H p = none) : S p = none ∧ p ∉ as := by
  have h2 : p ∉ as := fun h => w.there p h n
  refine ⟨?_, h2⟩
  cases e : S p with
  | none => rfl
  | some u => rw [w.kept p u h2 e] at n; cases n
theorem Own.frB (w : Own S B0 as B l H) (n : H p = none) : B p = none := same_none w.imm n
theorem Own.more (w : Own S B0 as B l H) (s : Same H H') : Own S B0 as B l H' :=
  ⟨⟨fun a u h => s _ _ (w.c.cell a u h), w.c.nd, w.c.imm.trans s, w.c.dis⟩, fun b u hb h => s _ _ (w.kept b u hb h), w.own, w.grow, w.new, fun a h e => w.there a h (same_none s e)⟩
theorem Own.notin (w : Own S B0 as B l H) (n : H p = none) {u : HO} : (p, u) ∉ l := fun h => by
  rw [w.c.cell p u h] at n
  cases n
theorem Own.ro (w : Own S B0 as B l H) (n : H p = none) (s : Same H H') (e : H' p = some o) : ∃ B', Same B B' ∧ B' p = some o ∧ B p = none ∧ Own S B0 as B' l H' := by
  have nb := w.frB n
  refine ⟨upd B p o, same_upd nb, upd_same, nb, ⟨fun a u h => s _ _ (w.c.cell a u h), w.c.nd, fun b u h => ?_, fun a u h => ?_⟩, fun b u hb h => s _ _ (w.kept b u hb h), w.own, w.grow.trans (same_upd nb), fun b h k => ?_, fun a h e => w.there a h (same_none s e)⟩
  · by_cases hb : b = p
    · rw [hb, upd_same] at h
      rw [hb, e, h]
    · rw [upd_ne hb] at h
      exact s _ _ (w.c.imm _ _ h)
  · rw [upd_ne (fun z => w.notin n (z ▸ h))]
    exact w.c.dis a u h
  · by_cases hb : b = p
    · rw [hb]
      exact (w.frS n).1
    · rw [upd_ne hb] at k
      exact w.new b h k
theorem Own.add (w : Own S B0 as B l H) (n : H p = none) (s : Same H H') (e : H' p = some o) : Own S B0 as B ((p, o) :: l) H' :=
  ⟨⟨fun a u h => by
      rcases List.mem_cons.mp h with h | h
      · cases h
        exact e
      · exact s _ _ (w.c.cell a u h), List.nodup_cons.mpr ⟨fun h => by
      obtain ⟨u, h⟩ := fst_mem h
      exact w.notin n h, w.c.nd⟩, w.c.imm.trans s, fun a u h => by
      rcases List.mem_cons.mp h with h | h
      · cases h
        exact w.frB n
      · exact w.c.dis a u h⟩, fun b u hb h => s _ _ (w.kept b u hb h), fun a u h => by
      rcases List.mem_cons.mp h with h | h
      · cases h
        exact .inr (w.frS n).1
      · exact w.own a u h, w.grow, w.new, fun a h e => w.there a h (same_none s e)⟩
theorem Own.sub {l' : List (Addr × HO)} (w : Own S B0 as B l H) (h : ∀ c, c ∈ l' → c ∈ l) (nd : (l'.map Prod.fst).Nodup) : Own S B0 as B l' H :=
  ⟨⟨fun a u k => w.c.cell a u (h _ k), nd, w.c.imm, fun a u k => w.c.dis a u (h _ k)⟩, w.kept, fun a u k => w.own a u (h _ k), w.grow, w.new, w.there⟩
/-- a cell changes: a list of the cells as they stand, one of them another -/
theorem Own.chg {l' : List (Addr × HO)} (w : Own S B0 as B l H) {u : HO} (hm : (p, u) ∈ l) (hf : l'.map Prod.fst = l.map Prod.fst) (hc : ∀ a v, (a, v) ∈ l' → (a = p ∧ v = o) ∨ (a ≠ p ∧ (a, v) ∈ l)) : Own S B0 as B l' (upd H p o) := by
  have old : ∀ {a v}, (a, v) ∈ l' → ∃ v', (a, v') ∈ l := fun {a v} h => by
    have := mem_fst h
    rw [hf] at this
    exact fst_mem this
  refine ⟨⟨fun a v h => ?_, hf ▸ w.c.nd, fun b v h => ?_, fun a v h => ?_⟩, fun b v hb h => ?_, fun a v h => ?_, w.grow, w.new, fun a h => ?_⟩
  · rcases hc a v h with ⟨rfl, rfl⟩ | ⟨hn, h⟩
    · exact upd_same
    · rw [upd_ne hn]
      exact w.c.cell a v h
  · have hb : b ≠ p := fun e => by
      rw [e, w.c.dis p u hm] at h
      cases h
    rw [upd_ne hb]
    exact w.c.imm b v h
  · obtain ⟨v', h'⟩ := old h
    exact w.c.dis a v' h'
  · have hn : b ≠ p := fun e => by
      subst e
      rcases w.own b u hm with z | z
      · exact hb z
      · rw [z] at h
        cases h
    rw [upd_ne hn]
    exact w.kept b v hb h
  · obtain ⟨v', h'⟩ := old h
    exact w.own a v' h'
  · by_cases e : a = p
    · rw [e, upd_same]
      exact fun z => nomatch z
    · rw [upd_ne e]
      exact w.there a h
theorem nd_ne {a b : Addr} {x y : HO} {l : List (Addr × HO)} (nd : (((a, x) :: l).map Prod.fst).Nodup) (h : (b, y) ∈ l) : b ≠ a := fun e => by
  subst e
  exact (List.nodup_cons.mp nd).1 (mem_fst h)
/-- the i-th cell changes -/
theorem Own.set (w : Own S B0 as B l H) (i : Nat) {u : HO} (hi : l[i]? = some (p, u)) (o : HO) : Own S B0 as B (l.set i (p, o)) (upd H p o) := by
  have hm : (p, u) ∈ l := List.mem_of_getElem? hi
  have hil := (List.getElem?_eq_some_iff.mp hi).1
  refine w.chg hm ?_ fun a v h => ?_
  · apply List.ext_getElem?
    intro j
    rw [List.getElem?_map, List.getElem?_map, List.getElem?_set]
    by_cases e : i = j
    · subst e
      rw [if_pos rfl, if_pos hil, hi]
      rfl
    · rw [if_neg e]
  · obtain ⟨j, hj⟩ := List.getElem?_of_mem h
    rw [List.getElem?_set] at hj
    by_cases e : i = j
    · rw [if_pos e, if_pos hil] at hj
      cases hj
      exact .inl ⟨rfl, rfl⟩
    · rw [if_neg e] at hj
      refine .inr ⟨fun z => ?_, List.mem_of_getElem? hj⟩
      subst z
      have h1 : (l.map Prod.fst)[i]? = some a := by rw [List.getElem?_map, hi]; rfl
      have h2 : (l.map Prod.fst)[j]? = some a := by rw [List.getElem?_map, hj]; rfl
      have hil2 : i < (l.map Prod.fst).length := by rw [List.length_map]; exact hil
      exact e ((List.getElem?_inj hil2 w.c.nd).mp (h1.trans h2.symm))
/-- a callee that works on the first cells -/
theorem Own.call {lc lr l' : List (Addr × HO)} {B' : Hp} (w : Own S B0 as B (lc ++ lr) H) (w' : Own H B (lc.map Prod.fst) B' l' H') : Own S B0 as B' (l' ++ lr) H' := by
  have nd := w.c.nd
  rw [List.map_append] at nd
  have ndr := (List.nodup_append.mp nd)
  have hr : ∀ a o, (a, o) ∈ lr → a ∉ lc.map Prod.fst := fun a o h k => ndr.2.2 a k a (mem_fst h) rfl
  have hl : ∀ a o, (a, o) ∈ l' → a ∈ lc.map Prod.fst ∨ H a = none := w'.own
  refine ⟨⟨fun a o h => ?_, ?_, w'.c.imm, fun a o h => ?_⟩, fun b o hb h => ?_, fun a o h => ?_, w.grow.trans w'.grow, fun b h k => ?_, fun a h => ?_⟩
  · rcases List.mem_append.mp h with h | h
    · exact w'.c.cell a o h
    · exact w'.kept a o (hr a o h) (w.c.cell a o (List.mem_append_right _ h))
  · rw [List.map_append]
    refine List.nodup_append.mpr ⟨w'.c.nd, ndr.2.1, fun a h b k e => ?_⟩
    subst e
    obtain ⟨o, h⟩ := fst_mem h
    obtain ⟨o2, k⟩ := fst_mem k
    rcases hl a o h with z | z
    · exact hr a o2 k z
    · rw [w.c.cell a o2 (List.mem_append_right _ k)] at z
      cases z
  · rcases List.mem_append.mp h with h | h
    · exact w'.c.dis a o h
    · have hb := w.c.dis a o (List.mem_append_right _ h)
      cases e : B' a with
      | none => rfl
      | some u =>
        have := w'.new a hb (by rw [e]; exact fun z => nomatch z)
        rw [w.c.cell a o (List.mem_append_right _ h)] at this
        cases this
  · refine w'.kept b o (fun z => ?_) (w.kept b o hb h)
    obtain ⟨u, z⟩ := fst_mem z
    rcases w.own b u (List.mem_append_left _ z) with y | y
    · exact hb y
    · rw [y] at h
      cases h
  · rcases List.mem_append.mp h with h | h
    · rcases hl a o h with z | z
      · obtain ⟨u, z⟩ := fst_mem z
        exact w.own a u (List.mem_append_left _ z)
      · exact .inr (w.frS z).1
    · exact w.own a o (List.mem_append_right _ h)
  · cases e : B b with
    | none => exact (w.frS (w'.new b e k)).1
    | some u => exact w.new b h (by rw [e]; exact fun z => nomatch z)
  · intro e
    have ha := w.there a h
    cases e2 : H a with
    | none => exact ha e2
    | some u =>
      by_cases hc : a ∈ lc.map Prod.fst
      · exact w'.there a hc e
      · rw [w'.kept a u hc e2] at e
        cases e
theorem Own.call0 {lc l' : List (Addr × HO)} {B' : Hp} (w : Own S B0 as B lc H) (w' : Own H B (lc.map Prod.fst) B' l' H') : Own S B0 as B' l' H' := by
  have w2 : Own S B0 as B (lc ++ []) H := by rw [List.append_nil]; exact w
  have w3 := w2.call w'
  rw [List.append_nil] at w3
  exact w3
theorem Own.cellsL {lc lr : List (Addr × HO)} (w : Own S B0 as B (lc ++ lr) H) : Cells H B lc := by
  have nd := w.c.nd
  rw [List.map_append] at nd
  exact ⟨fun a o h => w.c.cell a o (List.mem_append_left _ h), (List.nodup_append.mp nd).1, w.c.imm, fun a o h => w.c.dis a o (List.mem_append_left _ h)⟩
/-- the first cell changes no more -/
theorem Own.ice (w : Own S B0 as B ((p, o) :: l) H) (n : S p = none) : ∃ B', Same B B' ∧ B' p = some o ∧ Own S B0 as B' l H := by
  have nb := w.c.dis p o (List.mem_cons_self ..)
  have nd := List.nodup_cons.mp w.c.nd
  refine ⟨upd B p o, same_upd nb, upd_same, ⟨fun a u h => w.c.cell a u (List.mem_cons_of_mem _ h), nd.2, fun b u h => ?_, fun a u h => ?_⟩, w.kept, fun a u h => w.own a u (List.mem_cons_of_mem _ h), w.grow.trans (same_upd nb), fun b h k => ?_, w.there⟩
  · by_cases hb : b = p
    · rw [hb, upd_same] at h
      rw [hb, w.c.cell p o (List.mem_cons_self ..), h]
    · rw [upd_ne hb] at h
      exact w.c.imm b u h
  · rw [upd_ne (fun z => nd.1 (by rw [← show a = p from z]; exact mem_fst h))]
    exact w.c.dis a u (List.mem_cons_of_mem _ h)
  · by_cases hb : b = p
    · rw [hb]
      exact n
    · rw [upd_ne hb] at k
      exact w.new b h k
end

/-! ### fields, methods, dicts, whiles: readings that stop the walk at what the heap holds -/
@[irreducible] def mGetF (C : Addr) (f : Str) (x : V) (H : Hp) (Q : VK) : Prop := ∃ a dx fs v, x = .ref a ∧ H a = some (.ins C dx fs) ∧ fs.lookup f = some v ∧ Q v H
@[irreducible] def mPutF (C : Addr) (f : Str) (x y : V) (H : Hp) (k : Hp → Prop) : Prop := ∃ a dx fs, x = .ref a ∧ H a = some (.ins C dx fs) ∧ fs.length < 1000 ∧ k (upd H a (.ins C dx (putF f y fs)))
@[irreducible] def mIns (C : Addr) (m : Str) (x : V) (H : Hp) (A : Prop) : Prop := ∃ a dx fs, x = .ref a ∧ H a = some (.ins C dx fs) ∧ fs.lookup m = none ∧ A
@[irreducible] def mDIn (x y : V) (H : Hp) (Q : VK) : Prop := ∃ a kvs k, x = .ref a ∧ y = kV k ∧ H a = some (.dK kvs) ∧ Q (.bl (valV kvs k).isSome) H
@[irreducible] def mDNotIn (x y : V) (H : Hp) (Q : VK) : Prop := ∃ a kvs k, x = .ref a ∧ y = kV k ∧ H a = some (.dK kvs) ∧ Q (.bl (!(valV kvs k).isSome)) H
@[irreducible] def mDGet (x y : V) (H : Hp) (Q : VK) : Prop := ∃ a kvs k v, x = .ref a ∧ y = kV k ∧ Rd H a (.dK kvs) ∧ valV kvs k = some v ∧ Q v H
@[irreducible] def mDPut (x y v : V) (H : Hp) (k : Hp → Prop) : Prop := ∃ a kvs key, x = .ref a ∧ y = kV key ∧ H a = some (.dK kvs) ∧ kvs.length < 1000000 ∧ k (upd H a (.dK (putK kvs key v)))
@[irreducible] def mDDel (x y : V) (H : Hp) (k : Hp → Prop) : Prop := ∃ a kvs key, x = .ref a ∧ y = kV key ∧ H a = some (.dK kvs) ∧ (valV kvs key).isSome = true ∧ k (upd H a (.dK (dropK kvs key)))
@[irreducible] def mPopAt (x i : V) (H : Hp) (Q : VK) : Prop := ∃ l xs k y, x = .ref l ∧ i = .int k ∧ H l = some (.lst xs) ∧ 0 ≤ k ∧ k < (xs.length : Int) ∧ k ≤ 1000000 ∧ xs[k.toNat]? = some y ∧ Q y (upd H l (.lst (xs.eraseIdx k.toNat)))
@[irreducible] def mInsert (x i y : V) (H : Hp) (Q : VK) : Prop := ∃ l xs k, x = .ref l ∧ i = .int k ∧ H l = some (.lst xs) ∧ xs.length < 1000000 ∧ 0 ≤ k ∧ k ≤ 1000000 ∧ Q .non (upd H l (.lst (xs.take k.toNat ++ [y] ++ xs.drop k.toNat)))
@[irreducible] def mTru (K : PySem.W.Frag) (x : V) (H : Hp) (Q : Bool → Hp → Prop) : Prop := ∃ k, TruV K x H k ∧ Q k H
def mFld (C : Addr) (ta : TE) (f : Str) : TE := fun σ H Q => ta σ H fun x H1 => mGetF C f x H1 Q
def mSFld (C : Addr) (ta tv : TE) (f : Str) : TS := fun D σ H => tv σ H fun y H1 => ta σ H1 fun x H2 => mPutF C f x y H2 fun H3 => D.nx σ H3
def mSFldAug (C : Addr) (ta tv : TE) (rd : R2) (f : Str) : TS := fun D σ H => ta σ H fun x H1 => mGetF C f x H1 fun v _ => tv σ H1 fun y H2 => rd v y H2 fun z H3 => mPutF C f x z H3 fun H4 => D.nx σ H4
def mMeth (C : Addr) (m : Str) (sp : Sp) (dvs : List V) (E : XK) (ta : TE) (t : TA) : TE := fun σ H Q => ta σ H fun x H1 => mIns C m x H1 (t σ H1 fun vs H2 => sp (x :: (vs ++ dvs)) H2 Q E)
def mDInE (ty td : TE) : TE := fun σ H Q => ty σ H fun y H1 => td σ H1 fun x H2 => mDIn x y H2 Q
def mDNotInE (ty td : TE) : TE := fun σ H Q => ty σ H fun y H1 => td σ H1 fun x H2 => mDNotIn x y H2 Q
def mDGetE (td ty : TE) : TE := fun σ H Q => td σ H fun x H1 => ty σ H1 fun y H2 => mDGet x y H2 Q
def mSDPut (td ty tv : TE) : TS := fun D σ H => tv σ H fun v H1 => td σ H1 fun x H2 => ty σ H2 fun y H3 => mDPut x y v H3 fun H4 => D.nx σ H4
def mSDDel (td ty : TE) : TS := fun D σ H => td σ H fun x H1 => ty σ H1 fun y H2 => mDDel x y H2 fun H3 => D.nx σ H3
def mPopE (to te : TE) : TE := fun σ H Q => to σ H fun x H1 => ∃ l xs, x = .ref l ∧ H1 l = some (.lst xs) ∧ te σ H1 fun y H2 => mPopAt x y H2 Q
def mInsE (to ti te : TE) : TE := fun σ H Q => to σ H fun x H1 => ∃ l xs, x = .ref l ∧ H1 l = some (.lst xs) ∧ ti σ H1 fun i H2 => te σ H2 fun y H3 => mInsert x i y H3 Q
def mTruth (K : PySem.W.Frag) (ta : TE) : TT := fun σ H Q => ta σ H fun x H1 => mTru K x H1 Q
@[irreducible] def mWhile (c : TT) (tb : TS) : TS := fun D σ H => ∃ (Pv : L2.St → Hp → Prop) (μ : L2.St → Hp → Nat), Pv σ H ∧ ∀ σ H, Pv σ H → c σ H fun b H1 => Br b (tb { D with nx := fun σ' H' => Pv σ' H' ∧ μ σ' H' < μ σ H, ct := fun σ' H' => Pv σ' H' ∧ μ σ' H' < μ σ H, bk := D.nx } σ H1) (D.nx σ H1)
theorem rd_while {c : TT} {tb : TS} {D : Ends} {σ : L2.St} {H : Hp} (Pv : L2.St → Hp → Prop) (μ : L2.St → Hp → Nat) (h0 : Pv σ H) (hs : ∀ σ H, Pv σ H → c σ H fun b H1 => Br b (tb { D with nx := fun σ' H' => Pv σ' H' ∧ μ σ' H' < μ σ H, ct := fun σ' H' => Pv σ' H' ∧ μ σ' H' < μ σ H, bk := D.nx } σ H1) (D.nx σ H1)) : mWhile c tb D σ H := by
  unfold mWhile
  exact ⟨Pv, μ, h0, hs⟩
section
variable {C a : Addr} {f m : Str} {H : Hp} {Q : VK} {dx : Addr} {fs : List (Str × V)} {v y : V} {kvs : List (Key × V)} {n : Int} {t : Str} {xs : List V}
theorem rd_getF (h : H a = some (.ins C dx fs)) (hl : fs.lookup f = some v) (q : Q v H) : mGetF C f (.ref a) H Q := by
  unfold mGetF
  exact ⟨a, dx, fs, v, rfl, h, hl, q⟩
theorem rd_putF {k : Hp → Prop} {fs' : List (Str × V)} (h : H a = some (.ins C dx fs)) (hz : fs.length < 1000) (e : putF f y fs = fs') (q : k (upd H a (.ins C dx fs'))) : mPutF C f (.ref a) y H k := by
  unfold mPutF
  exact ⟨a, dx, fs, rfl, h, hz, e ▸ q⟩
theorem rd_ins {A : Prop} (h : H a = some (.ins C dx fs)) (hl : fs.lookup m = none) (q : A) : mIns C m (.ref a) H A := by
  unfold mIns
  exact ⟨a, dx, fs, rfl, h, hl, q⟩
theorem rd_din (h : H a = some (.dK kvs)) (q : Q (.bl (valV kvs (.inl n)).isSome) H) : mDIn (.ref a) (.int n) H Q := by
  unfold mDIn
  exact ⟨a, kvs, .inl n, rfl, rfl, h, q⟩
theorem rd_dnotin (h : H a = some (.dK kvs)) (q : Q (.bl (!(valV kvs (.inl n)).isSome)) H) : mDNotIn (.ref a) (.int n) H Q := by
  unfold mDNotIn
  exact ⟨a, kvs, .inl n, rfl, rfl, h, q⟩
theorem rd_dget (h : H a = some (.dK kvs)) (e : valV kvs (.inl n) = some v) (q : Q v H) : mDGet (.ref a) (.int n) H Q := by
  unfold mDGet
  exact ⟨a, kvs, .inl n, v, rfl, rfl, .inl h, e, q⟩
theorem rd_dgetR (h : Rd H a (.dK kvs)) (e : valV kvs (.inl n) = some v) (q : Q v H) : mDGet (.ref a) (.int n) H Q := by
  unfold mDGet
  exact ⟨a, kvs, .inl n, v, rfl, rfl, h, e, q⟩
theorem rd_dgetS (h : H a = some (.dK kvs)) (e : valV kvs (.inr t) = some v) (q : Q v H) : mDGet (.ref a) (.str t) H Q := by
  unfold mDGet
  exact ⟨a, kvs, .inr t, v, rfl, rfl, .inl h, e, q⟩
theorem rd_dput {k : Hp → Prop} (h : H a = some (.dK kvs)) (hz : kvs.length < 1000000) (q : k (upd H a (.dK (putK kvs (.inl n) y)))) : mDPut (.ref a) (.int n) y H k := by
  unfold mDPut
  exact ⟨a, kvs, .inl n, rfl, rfl, h, hz, q⟩
theorem rd_dputS {k : Hp → Prop} (h : H a = some (.dK kvs)) (hz : kvs.length < 1000000) (q : k (upd H a (.dK (putK kvs (.inr t) y)))) : mDPut (.ref a) (.str t) y H k := by
  unfold mDPut
  exact ⟨a, kvs, .inr t, rfl, rfl, h, hz, q⟩
theorem rd_ddel {k : Hp → Prop} (h : H a = some (.dK kvs)) (e : (valV kvs (.inl n)).isSome = true) (q : k (upd H a (.dK (dropK kvs (.inl n))))) : mDDel (.ref a) (.int n) H k := by
  unfold mDDel
  exact ⟨a, kvs, .inl n, rfl, rfl, h, e, q⟩
theorem rd_pop0 {xs : List V} (h : H a = some (.lst (y :: xs))) (q : Q y (upd H a (.lst xs))) : mPopAt (.ref a) (.int 0) H Q := by
  unfold mPopAt
  exact ⟨a, y :: xs, 0, y, rfl, rfl, h, Int.le_refl 0, by rw [List.length_cons]; omega, by decide, rfl, q⟩
theorem rd_popAt (h : H a = some (.lst xs)) (h0 : 0 ≤ n) (h1 : n < (xs.length : Int)) (h2 : n ≤ 1000000) (e : xs[n.toNat]? = some y) (q : Q y (upd H a (.lst (xs.eraseIdx n.toNat)))) : mPopAt (.ref a) (.int n) H Q := by
  unfold mPopAt
  exact ⟨a, xs, n, y, rfl, rfl, h, h0, h1, h2, e, q⟩
theorem rd_insert (h : H a = some (.lst xs)) (hz : xs.length < 1000000) (h0 : 0 ≤ n) (h1 : n ≤ 1000000) (q : Q .non (upd H a (.lst (xs.take n.toNat ++ [y] ++ xs.drop n.toNat)))) : mInsert (.ref a) (.int n) y H Q := by
  unfold mInsert
  exact ⟨a, xs, n, rfl, rfl, h, hz, h0, h1, q⟩
theorem rd_truL {K : PySem.W.Frag} {R : Bool → Hp → Prop} (h : SqL K H a xs) (q : R (!xs.isEmpty) H) : mTru K (.ref a) H R := by
  unfold mTru
  exact ⟨_, .inl ⟨xs, h, rfl⟩, q⟩
theorem rd_truD {K : PySem.W.Frag} {R : Bool → Hp → Prop} (h : H a = some (.dK kvs)) (q : R (!kvs.isEmpty) H) : mTru K (.ref a) H R := by
  unfold mTru
  exact ⟨_, .inr (.inr ⟨kvs, h, rfl⟩), q⟩
theorem rd_truB {K : PySem.W.Frag} {R : Bool → Hp → Prop} {b : Bool} (q : R b H) : mTru K (.bl b) H R := by
  unfold mTru
  exact ⟨b, rfl, q⟩
end
section
variable {X : Cx} {e o value i c : Expr} {f m : Str} {pos pos' tpos apos cpos : Pos} {ta tv td ty te ti to : TE} {C : Addr}
theorem pe_fldM (he : PE X e ta) (c : Cls X.K C) (n : NoAttr X.K C f) (hb : attributeBase e f X.env (eval e X.env) = eval e X.env := by rfl) : PE X (.Attribute e f pos) (mFld C ta f) :=
  pe_weak (pe_fld (pe_c he) hb) fun σ H Q q => ⟨_, q, fun x H1 r => by
    unfold mGetF at r
    obtain ⟨a, dx, fs, v, e1, h, hl, r⟩ := r
    exact ⟨a, C, dx, fs, v, e1, h, c, n, hl, r⟩⟩
theorem ps_fldM (ha : PE X o ta) (hv : PE X value tv) (c : Cls X.K C) (n : NoAttr X.K C f) (hs : swapsWith value (some (.Attribute o f pos')) pos.line X.env = pure false := by rfl) : PS X (.Assign [.Attribute o f pos'] value pos) (mSFld C ta tv f) :=
  ps_weak (ps_fld (pe_c ha) (pe_c hv) hs) fun D σ H q => ⟨_, q, fun y H1 r => ⟨_, r, fun x H2 r => by
    unfold mPutF at r
    obtain ⟨a, dx, fs, e1, h, hz, r⟩ := r
    exact ⟨a, C, dx, fs, e1, h, c, n, hz, r⟩⟩⟩
theorem inop_c {op : Operator} {rd : R2} (h : InOp X op rd) : InOp X op (cR2 rd) := fun pins s σ H x y u v Q I rx ry ⟨R, h1, h2⟩ => thn (h pins s σ H x y u v R I rx ry h1) fun w s1 ⟨z, H1, I1, rz, q⟩ => ⟨z, H1, I1, rz, h2 _ _ q⟩
theorem ps_fldaugM {op : Operator} {rd : R2} (ha : PE X o ta) (hv : PE X value tv) (hop : InOp X op rd) (c : Cls X.K C) (n : NoAttr X.K C f) : PS X (.AugAssign (.Attribute o f tpos) op value pos) (mSFldAug C ta tv rd f) :=
  ps_weak (ps_fldaug (pe_c ha) (pe_c hv) (inop_c hop)) fun D σ H q => ⟨_, q, fun x H1 r => by
    unfold mGetF at r
    obtain ⟨a, dx, fs, v, e1, h, hl, r⟩ := r
    subst e1
    refine ⟨a, C, dx, fs, v, rfl, h, c, n, hl, _, r, fun y H2 r => ⟨_, r, fun z H3 r => ?_⟩⟩
    unfold mPutF at r
    obtain ⟨a', dx', fs', e1, h', hz, r⟩ := r
    cases e1
    exact ⟨dx', fs', h', hz, r⟩⟩
theorem pc_weak {op : CmpOp} {a b : Expr} {t t' : TE} (h : PC X op a b t) (w : ∀ σ H Q, t' σ H Q → t σ H Q) : PC X op a b t' := ⟨fun pins s σ H Q I q => h.run pins s σ H Q I (w σ H Q q)⟩
theorem pc_dinM (hu : X.A.units + 1 < cLine) (hi : PE X i ty) (ho : PE X o td) : PC X .In i o (mDInE ty td) :=
  pc_weak (pc_din hu (pe_c hi) (pe_c ho)) fun σ H Q q => ⟨_, q, fun y H1 r => ⟨_, r, fun x H2 r => by
    unfold mDIn at r
    obtain ⟨a, kvs, k, e1, e2, h, r⟩ := r
    exact ⟨a, _, e1, e2 ▸ DGet.k h, r⟩⟩⟩
theorem pc_dnotinM (hu : X.A.units + 1 < cLine) (hi : PE X i ty) (ho : PE X o td) : PC X .NotIn i o (mDNotInE ty td) :=
  pc_weak (pc_dnotin hu (pe_c hi) (pe_c ho)) fun σ H Q q => ⟨_, q, fun y H1 r => ⟨_, r, fun x H2 r => by
    unfold mDNotIn at r
    obtain ⟨a, kvs, k, e1, e2, h, r⟩ := r
    exact ⟨a, _, e1, e2 ▸ DGet.k h, r⟩⟩⟩
theorem pe_dgetM (hu : X.A.units + 1 < cLine) (ho : PE X o td) (hi : PE X i ty) (hs : NoSl i := by exact fun _ _ => rfl) : PE X (.Subscript o i pos) (mDGetE td ty) :=
  pe_weak (pe_dget hu (pe_c ho) (pe_c hi) hs) fun σ H Q q => ⟨_, q, fun x H1 r => ⟨_, r, fun y H2 r => by
    unfold mDGet at r
    obtain ⟨a, kvs, k, v, e1, e2, h, e, r⟩ := r
    exact ⟨a, v, e1, .inl ⟨kvs, k, h, e2, e.symm⟩, r⟩⟩⟩
theorem ps_dputM (hu : X.A.units + 1 < cLine) (ho : PE X o td) (hi : PE X i ty) (hv : PE X value tv) (hs : swapsWith value (some (.Subscript o i pos')) pos.line X.env = pure false := by rfl) : PS X (.Assign [.Subscript o i pos'] value pos) (mSDPut td ty tv) :=
  ps_weak (ps_dput hu (pe_c ho) (pe_c hi) (pe_c hv) hs) fun D σ H q => ⟨_, q, fun v H1 r => ⟨_, r, fun x H2 r => ⟨_, r, fun y H3 r => by
    unfold mDPut at r
    obtain ⟨a, kvs, k, e1, e2, h, hz, r⟩ := r
    exact ⟨a, _, e1, e2 ▸ DPut.k h (szl hz), r⟩⟩⟩⟩
theorem ps_ddelM (ho : PE X o td) (hi : PE X i ty) : PS X (.Delete [.Subscript o i tpos] pos) (mSDDel td ty) :=
  ps_weak (ps_ddel (pe_c ho) (pe_c hi)) fun D σ H q => ⟨_, q, fun x H1 r => ⟨_, r, fun y H2 r => by
    unfold mDDel at r
    obtain ⟨a, kvs, k, e1, e2, h, e, r⟩ := r
    exact ⟨a, kvs, k, e1, h, e2, e, r⟩⟩⟩
theorem pt_truthM (ha : PE X e ta) (he : ∀ whole, isTrue e X.env whole = (do let v ← whole; standAt e.pos; holding [v] (truthy v))) : PT X e (mTruth X.K ta) :=
  pt_weak (pt_truth (pe_c ha) he) fun σ H Q q => ⟨_, q, fun x H1 r => by
    unfold mTru at r
    exact r⟩
theorem ps_whileM {body : List Stmt} {tc : TT} {tb : TS} (hp : PassesOwn (model X.prog X.w) X.A X.env X.xe) (hc : PT X c tc) (hb : PSs X body tb) : PS X (.While c body [] pos) (mWhile tc tb) :=
  ps_weak (ps_while hp (pt_c hc) hb) fun D σ H q => by
    unfold mWhile at q
    obtain ⟨Pv, μ, h0, hs⟩ := q
    exact while_by Pv μ h0 (fun σ H p => ⟨_, hs σ H p, fun b H1 r => r.un⟩) fun σ H Q Q' h ⟨R, h1, h2⟩ => ⟨R, h1, fun b H1 r => h _ _ (h2 _ _ r)⟩
theorem pe_pop {o e : Expr} (ho : PE X o to) (he : PE X e te) (hbase : attributeBase o "pop" X.env (eval o X.env) = eval o X.env := by rfl)
    (hfew : ((backTo cpos (starEach [e] X.env)).all (fun x => !x.1) && (backToKw cpos (keywordEach [] X.env)).all (fun x => x.1.isSome)
      && decide ([e].length + ([] : List Keyword).length + (if ([] : List Keyword).isEmpty then 0 else 1) < 30)) = true := by rfl)
    (hline : (apos.endLine == cpos.line) = true := by rfl) (hs : starEach [e] X.env = (false, eval e X.env) :: starEach [] X.env := by rfl) (hplain : (backTo cpos (starEach [] X.env)).any (·.1) = false := by rfl) :
    PE X (.Call (.Attribute o "pop" apos) [e] [] cpos) (mPopE to te) :=
  pe_weak (pe_bm PySem.F.plainAttrs_list PySem.F.slot_list_pop PySem.F.type_list_pop mt_popAt (pe_c ho) (pa_cons (pe_c he) pa_nil hs) hbase hfew hline hs hplain) fun σ H Q q => by
    refine ⟨_, q, fun x H1 r => ?_⟩
    obtain ⟨l, xs, rfl, h, r⟩ := r
    refine ⟨Or.inl ⟨rfl, _, SqL.of h⟩, _, r, fun y H2 r2 => ?_⟩
    unfold mPopAt at r2
    obtain ⟨l2, ys, k, z, e2, e3, h2, h0, h1, hk, hy, q2⟩ := r2
    have big : (2 : Int) ^ 63 = 9223372036854775808 := by decide
    exact ⟨l2, ys, k, k.toNat, z, e2, congrArg (fun u => [u]) e3, h2, by omega, by omega, seqIndex_of h0 h1, hy, q2⟩
end
section
variable {X : Cx} {e o i : Expr} {m : Str} {apos cpos : Pos} {ta te ti to : TE} {C : Addr} {t : TA} {sp : Sp} {dvs : List V} {E : XK}
theorem meth_weak (h : PE X e (tMeth C m sp dvs E (cTE ta) t)) : PE X e (mMeth C m sp dvs E ta t) := pe_weak h fun σ H Q q => ⟨_, q, fun x H1 r => by
  unfold mIns at r
  exact r⟩
theorem pe_insert {o i e : Expr} (ho : PE X o to) (hi : PE X i ti) (he : PE X e te) (hbase : attributeBase o "insert" X.env (eval o X.env) = eval o X.env := by rfl)
    (hfew : ((backTo cpos (starEach [i, e] X.env)).all (fun x => !x.1) && (backToKw cpos (keywordEach [] X.env)).all (fun x => x.1.isSome)
      && decide ([i, e].length + ([] : List Keyword).length + (if ([] : List Keyword).isEmpty then 0 else 1) < 30)) = true := by rfl)
    (hline : (apos.endLine == cpos.line) = true := by rfl) (hs1 : starEach [e] X.env = (false, eval e X.env) :: starEach [] X.env := by rfl) (hs : starEach [i, e] X.env = (false, eval i X.env) :: starEach [e] X.env := by rfl) (hplain : (backTo cpos (starEach [e] X.env)).any (·.1) = false := by rfl) :
    PE X (.Call (.Attribute o "insert" apos) [i, e] [] cpos) (mInsE to ti te) :=
  pe_weak (pe_bm PySem.F.plainAttrs_list PySem.F.slot_list_insert PySem.F.type_list_insert mt_insert (pe_c ho) (pa_cons (pe_c hi) (pa_cons (pe_c he) pa_nil hs1) hs) hbase hfew hline hs hplain) fun σ H Q q => by
    refine ⟨_, q, fun x H1 r => ?_⟩
    obtain ⟨l, xs, rfl, h, r⟩ := r
    refine ⟨Or.inl ⟨rfl, _, SqL.of h⟩, _, r, fun y H2 r => ⟨_, r, fun z H3 r2 => ?_⟩⟩
    unfold mInsert at r2
    obtain ⟨l2, ys, k, e2, e3, h2, hz, h0, h1, q2⟩ := r2
    have big : (2 : Int) ^ 63 = 9223372036854775808 := by decide
    exact ⟨l2, ys, k, z, e2, congrArg (fun u => [u, z]) e3, h2, szl hz, h0, by omega, q2⟩
end
/-! ### an if whose ways meet again: told once by what holds behind it -/
def cTSs (t : TS) : TS := fun D σ H => ∃ P : L2.St → Hp → Prop, t { D with nx := P } σ H ∧ ∀ σ' H', P σ' H' → D.nx σ' H'
theorem pss_c {X : Cx} {sts : List Stmt} {t : TS} (h : PSs X sts t) : PSs X sts (cTSs t) := ⟨fun pins s σ H D I ⟨P, h1, h2⟩ => thn (h.run pins s σ H { D with nx := P } I h1) fun f s' q => by
  cases f with
  | next =>
    obtain ⟨σ', H', I', q⟩ := q
    exact ⟨σ', H', I', h2 _ _ q⟩
  | brk => exact q
  | cont => exact q
  | ret u => exact q⟩
@[irreducible] def IfJ (b : Bool) (t u : TS) (D : Ends) (σ : L2.St) (H : Hp) : Prop := ∃ P : L2.St → Hp → Prop, (b = true → t { D with nx := P } σ H) ∧ (b = false → u { D with nx := P } σ H) ∧ ∀ σ' H', P σ' H' → D.nx σ' H'
def mIfJ (c : TT) (t u : TS) : TS := fun D σ H => c σ H fun b H1 => IfJ b t u D σ H1
theorem rd_ifJ {b : Bool} {t u : TS} {D : Ends} {σ : L2.St} {H : Hp} (P : L2.St → Hp → Prop) (h1 : b = true → t { D with nx := P } σ H) (h2 : b = false → u { D with nx := P } σ H) (k : ∀ σ' H', P σ' H' → D.nx σ' H') : IfJ b t u D σ H := by
  unfold IfJ
  exact ⟨P, h1, h2, k⟩
theorem ps_ifJ {X : Cx} {c : Expr} {bs us : List Stmt} {pos : Pos} {tt : TT} {t u : TS} (hc : PT X c tt) (ha : PSs X bs t) (hb : PSs X us u) : PS X (.If c bs us pos) (mIfJ tt t u) :=
  ps_weak (ps_if (pt_c hc) (pss_c ha) (pss_c hb)) fun D σ H q => ⟨_, q, fun b H1 r => by
    unfold IfJ at r
    obtain ⟨P, h1, h2, k⟩ := r
    cases b with
    | true => exact iteT ⟨P, h1 rfl, k⟩
    | false => exact iteF ⟨P, h2 rfl, k⟩⟩
end My
namespace My
open PySem L2

section
open PySem.Spec PyProof.Rows
variable {prog : Program} {w : World} {A : Around} {E : Value → Shared → Prop} {s : Shared}
def bestA (b : Option (Int × Tok)) : Array Value := match b with | none => #[] | some p => #[Value.int p.1 p.2, Value.int p.1 p.2]
def bestO (b : Option (Int × Tok)) (c : Nat) : Obj := { cls := .type "list", dict := none, data := .seq (bestA b) c, slots := #[] }
def endsIn (o : Option Int) (dv v : Value) : Prop := match o with | none => v = dv | some m => ∃ t, v = Value.int m t
theorem kw_tree {id : String} {b : Builtin} {args : List Value} {kw : List (Str × Value)} {Q : Value → Shared → Prop} (hk : builtinKind id = none) (hp : plainId id = true) (hb : entryFor table id = some b) (ha : argsOk id ⟨args, kw⟩)
    (hc : wpAny (model prog w) A.in1 (b ⟨args, kw⟩) (fun fin s' => match fin with
      | .done f => (match (Except.ok f : Result) with | .ok (.ret v) => Q v s' | .ok _ => False | .error e => E e s')
      | .again d => d.quiet = true ∧ codeAny (model prog w) A d (fun r s' => match r with | .ok (.ret v) => Q v s' | .ok _ => False | .error e => E e s') s') E s) : wpAny (model prog w) A (call (.builtin id) args kw) Q E s := by
  refine wpAny_call (codeAny_call_builtin hp hb ?_)
  simp only [checkBuiltinCall, hk]
  cases hs : Manifest.signature? id with
  | none => exact wpAny_pure hc
  | some sig =>
    have h2 : Bind.checkArgs id sig ⟨args, kw⟩ = pure () := by simpa only [argsOk, hs] using ha
    show wpAny _ A.in1 (Bind.checkArgs id sig ⟨args, kw⟩) _ _ s
    rw [h2]
    exact wpAny_pure hc
end

section
open PySem.Spec PyProof.Rows
variable {prog : Program} {w : World} {A : Around} {R : Result → Shared → Prop} {I : Addr} {fp wr : List Addr} {G : Array GenState → Array GenState → Prop} {n : Nat} {P : Nat → Value → Prop} {St : Nat → Shared → Prop}
def mxTo (val : Nat → Int) : Nat → Option Int
  | 0 => none
  | i + 1 => some (match mxTo val i with | none => val i | some m => if val i > m then val i else m)
theorem mx_loop (W : WalksS prog w A.in1 I fp wr G n P St) (val : Nat → Int) (hv : ∀ i v, P i v → ∃ t, v = Value.int (val i) t) (S : Addr) (hSf : S ∉ fp) (dv : Value) :
    ∀ (k i : Nat) (s : Shared) (c : Nat) (b : Option (Int × Tok)), n - i = k → i ≤ n → St i s → b.map Prod.fst = mxTo val i → s.heap.get? S = some (bestO b c) →
      (∀ v s', Moved (S :: wr) G s s' → endsIn (mxTo val n) dv v → R (.ok (.ret v)) s') → codeAny (model prog w) A (.builtin "max.loop" ⟨[.ref I, .none, .ref S], [(Str.ofString "default", dv)]⟩) R s := by
  have nw : S ∉ wr := fun z => hSf (W.sub _ z)
  have up : ∀ b ∈ wr, b ∈ S :: wr := fun b z => .tail _ z
  have hN : (toString "max" ++ toString ".loop" : String) = "max.loop" := by decide
  have hne : ∀ {b : Addr}, b ∉ S :: wr → S ≠ b := fun z e => z (e ▸ .head _)
  intro k
  induction k with
  | zero =>
    intro i s c b hk hi st hb hS fin
    have en : i = n := by omega
    subst en
    refine codeAny_builtin F.entry_max_loop ?_
    rw [Around.under_plainId F.plain_max_loop _]
    show wpAny _ A.in1 (seqItems? (.ref S) >>= _) _ _ s
    refine wpAny_bind (wpAny_seqItems hS (show (bestO b c).data = .seq (bestA b) c from rfl) ?_)
    show wpAny _ A.in1 (tryCatch (pyNext (.ref I)) _ >>= _) _ _ s
    refine wpAny_bind (wpAny_tryCatch (W.done s _ _ st fun s' mv => ?_))
    have hS2 := mv.heap S _ nw hS
    cases b with
    | none =>
      refine wpAny_bind (m := rule _) (wpAny_rule (wpAny_pure (fin _ _ (mv.mono up) ?_)))
      rw [← hb]
      rfl
    | some p =>
      obtain ⟨m, t⟩ := p
      show wpAny _ A.in1 (updateSeq S (fun _ => #[]) >>= _) _ _ _
      refine wpAny_bind ?_
      refine wpAny_updateSeq (hz := by show 2 ≤ sizeLine; rw [sizeLine_eq]; decide) hS2 rfl (wpAny_bind (wpAny_letGo (wpAny_pure ?_)))
      refine fin (.int m t) _ ((mv.mono up).then_heap (tk := s'.toks) (Nat.le_refl _) fun b o z e => (Heap.get?_update_other _ _ (hne z)).trans e) ?_
      rw [← hb]
      exact ⟨t, rfl⟩
  | succ k ih =>
    intro i s c b hk hi st hb hS fin
    have hlt : i < n := by omega
    refine codeAny_builtin F.entry_max_loop ?_
    rw [Around.under_plainId F.plain_max_loop _]
    show wpAny _ A.in1 (seqItems? (.ref S) >>= _) _ _ s
    refine wpAny_bind (wpAny_seqItems hS (show (bestO b c).data = .seq (bestA b) c from rfl) ?_)
    show wpAny _ A.in1 (tryCatch (pyNext (.ref I)) _ >>= _) _ _ s
    refine wpAny_bind (wpAny_tryCatch (W.item i s _ _ hlt st fun v s' pv st' mv => ?_))
    obtain ⟨u, rfl⟩ := hv i v pv
    have hS2 := mv.heap S _ nw hS
    have stay : ∀ (h' : Heap) (tk : Nat), s'.toks ≤ tk → (∀ b, b ≠ S → h'.get? b = s'.heap.get? b) → St (i + 1) { s' with heap := h', toks := tk } := fun h' tk htk hh => W.frame _ s' _ _ st' htk fun b zb o e => (hh b fun z => hSf (z ▸ zb)).trans e
    cases b with
    | none =>
      show wpAny _ A.in1 (updateSeq S (fun _ => #[Value.int (val i) u, Value.int (val i) u]) >>= _) _ _ _
      refine wpAny_bind ?_
      refine wpAny_updateSeq hS2 rfl ?_
      rw [hN]
      refine wpAny_pure ⟨plainId_quiet F.plain_max_loop _, ih (i + 1) _ _ (some (val i, u)) (by omega) hlt (stay _ s'.toks (Nat.le_refl _) fun b z => Heap.get?_update_other _ _ (Ne.symm z)) ?_ (Heap.get?_update_self _ hS2 rfl) fun v' s'' mv' hv' => ?_⟩
      · show some (val i) = mxTo val (i + 1)
        unfold mxTo
        rw [← hb]
        rfl
      · exact fin v' s'' (Moved.trans W.gtrans ((mv.mono up).then_heap (tk := s'.toks) (Nat.le_refl _) fun b o z e => (Heap.get?_update_other _ _ (hne z)).trans e) mv') hv'
    | some p =>
      obtain ⟨m, t⟩ := p
      have eb : mxTo val (i + 1) = some (if val i > m then val i else m) := by
        have hb2 : some m = mxTo val i := hb
        show some (match mxTo val i with | none => val i | some m => if val i > m then val i else m) = _
        rw [← hb2]
      show wpAny _ A.in1 (tryCatch (holding [Value.int (val i) u, Value.int (val i) u] (richCompare .Gt (Value.int (val i) u) (Value.int m t) >>= _)) _ >>= _) _ _ _
      refine wpAny_bind (wpAny_tryCatch (wpAny_holding (wpAny_bind ((CmpOf.ints_gt (P := fun a v => ∃ t, v = Value.int (if a = 0 then val i else m) t) (fun j : Nat => if j = 0 then val i else m) fun _ _ z => z) 0 1 _ _ _ _ _ ⟨u, rfl⟩ ⟨t, rfl⟩ ?_))))
      refine wpAny_bind (wpAny_holding (wpAny_truthy_bool ?_))
      refine wpAny_bind (wpAny_letGo (wpAny_pure ?_))
      show wpAny _ _ (if decide (val i > m) = true then _ else _) _ _ _
      by_cases hc : val i > m
      · rw [decide_eq_true hc]
        simp only [if_true]
        refine wpAny_bind ?_
        refine wpAny_updateSeq (hz := by show 2 ≤ sizeLine; rw [sizeLine_eq]; decide) hS2 rfl (wpAny_bind (wpAny_letGo ?_))
        rw [hN]
        refine wpAny_pure ⟨plainId_quiet F.plain_max_loop _, ih (i + 1) _ _ (some (val i, u)) (by omega) hlt (stay _ s'.toks (Nat.le_refl _) fun b z => Heap.get?_update_other _ _ (Ne.symm z)) (by rw [eb, if_pos hc]; rfl) (Heap.get?_update_self _ hS2 rfl) fun v' s'' mv' hv' => ?_⟩
        exact fin v' s'' (Moved.trans W.gtrans ((mv.mono up).then_heap (tk := s'.toks) (Nat.le_refl _) fun b o z e => (Heap.get?_update_other _ _ (hne z)).trans e) mv') hv'
      · rw [decide_eq_false hc]
        simp only [Bool.false_eq_true, if_false]
        refine wpAny_bind (wpAny_letGo ?_)
        rw [hN]
        refine wpAny_pure ⟨plainId_quiet F.plain_max_loop _, ih (i + 1) _ _ (some (m, t)) (by omega) hlt st' (by rw [eb, if_neg hc]; rfl) hS2 fun v' s'' mv' hv' => ?_⟩
        exact fin v' s'' (Moved.trans W.gtrans (mv.mono up) mv') hv'
theorem mx_kw {A : Around} {E : Value → Shared → Prop} {s : Shared} {x dv : Value} {Q : Value → Shared → Prop}
    (h : wpAny (model prog w) A.in1 (pyIter x) (fun it s2 => ∃ I fp wr G n P St val, it = .ref I ∧ WalksS prog w A.in1 I fp wr G n P St ∧ St 0 s2 ∧ (∀ b ∈ fp, b < s2.heap.objs.size) ∧ (∀ i v, P i v → ∃ t, v = Value.int (val i) t) ∧
      ∀ v s', Moved wr G s2 s' → endsIn (mxTo val n) dv v → Q v s') E s) : wpAny (model prog w) A (call (.builtin "max") [x] [(Str.ofString "default", dv)]) Q E s := by
  have hN : (toString "max" ++ toString ".loop" : String) = "max.loop" := by decide
  refine kw_tree F.kind_max F.plain_max F.entry_max (by unfold argsOk; kernel_rfl) ?_
  show wpAny _ A.in1 (Builtin.Builtins.bindParams "max" ["key", "default"] 0 ⟨[], [(Str.ofString "default", dv)]⟩ >>= _) _ _ s
  refine wpAny_bind (wpAny_of_eq (show Builtin.Builtins.bindParams "max" ["key", "default"] 0 ⟨[], [(Str.ofString "default", dv)]⟩ = pure [none, some dv] from by kernel_rfl) ?_)
  refine wpAny_bind (wpAny_pure ?_)
  refine wpAny_bind (wpAny_mono h (fun it s2 h2 => ?_) fun _ _ e => e)
  obtain ⟨I, fp, wr, G, n, P, St, val, rfl, W, st, hfp, hval, fin⟩ := h2
  refine wpAny_bind (wpAny_newObj_type ?_)
  have hSf : s2.heap.objs.size ∉ fp := fun z => Nat.lt_irrefl _ (hfp _ z)
  rw [hN]
  refine wpAny_pure ⟨plainId_quiet F.plain_max_loop _, mx_loop W val hval s2.heap.objs.size hSf dv n 0 _ 0 none (Nat.sub_zero n) (Nat.zero_le _) (W.frame 0 s2 _ s2.toks st (Nat.le_refl _) fun b _ o e => Heap.get?_push_of_some _ e) rfl (Heap.get?_push_size _ rfl) fun v s' mv hv => ?_⟩
  exact fin v s' (Moved.drop_new (tk := s2.toks) mv (Nat.le_refl _)) hv
end

section
open PySem.Spec PyProof.Rows
variable {prog : Program} {w : World} {A : Around} {R : Result → Shared → Prop} {I : Addr} {fp wr : List Addr} {G : Array GenState → Array GenState → Prop} {n : Nat} {P : Nat → Value → Prop} {St : Nat → Shared → Prop}
def mnTo (val : Nat → Int) : Nat → Option Int
  | 0 => none
  | i + 1 => some (match mnTo val i with | none => val i | some m => if val i < m then val i else m)
theorem mn_loop (W : WalksS prog w A.in1 I fp wr G n P St) (val : Nat → Int) (hv : ∀ i v, P i v → ∃ t, v = Value.int (val i) t) (S : Addr) (hSf : S ∉ fp) (dv : Value) :
    ∀ (k i : Nat) (s : Shared) (c : Nat) (b : Option (Int × Tok)), n - i = k → i ≤ n → St i s → b.map Prod.fst = mnTo val i → s.heap.get? S = some (bestO b c) →
      (∀ v s', Moved (S :: wr) G s s' → endsIn (mnTo val n) dv v → R (.ok (.ret v)) s') → codeAny (model prog w) A (.builtin "min.loop" ⟨[.ref I, .none, .ref S], [(Str.ofString "default", dv)]⟩) R s := by
  have nw : S ∉ wr := fun z => hSf (W.sub _ z)
  have up : ∀ b ∈ wr, b ∈ S :: wr := fun b z => .tail _ z
  have hN : (toString "min" ++ toString ".loop" : String) = "min.loop" := by decide
  have hne : ∀ {b : Addr}, b ∉ S :: wr → S ≠ b := fun z e => z (e ▸ .head _)
  intro k
  induction k with
  | zero =>
    intro i s c b hk hi st hb hS fin
    have en : i = n := by omega
    subst en
    refine codeAny_builtin F.entry_min_loop ?_
    rw [Around.under_plainId F.plain_min_loop _]
    show wpAny _ A.in1 (seqItems? (.ref S) >>= _) _ _ s
    refine wpAny_bind (wpAny_seqItems hS (show (bestO b c).data = .seq (bestA b) c from rfl) ?_)
    show wpAny _ A.in1 (tryCatch (pyNext (.ref I)) _ >>= _) _ _ s
    refine wpAny_bind (wpAny_tryCatch (W.done s _ _ st fun s' mv => ?_))
    have hS2 := mv.heap S _ nw hS
    cases b with
    | none =>
      refine wpAny_bind (m := rule _) (wpAny_rule (wpAny_pure (fin _ _ (mv.mono up) ?_)))
      rw [← hb]
      rfl
    | some p =>
      obtain ⟨m, t⟩ := p
      show wpAny _ A.in1 (updateSeq S (fun _ => #[]) >>= _) _ _ _
      refine wpAny_bind ?_
      refine wpAny_updateSeq (hz := by show 2 ≤ sizeLine; rw [sizeLine_eq]; decide) hS2 rfl (wpAny_bind (wpAny_letGo (wpAny_pure ?_)))
      refine fin (.int m t) _ ((mv.mono up).then_heap (tk := s'.toks) (Nat.le_refl _) fun b o z e => (Heap.get?_update_other _ _ (hne z)).trans e) ?_
      rw [← hb]
      exact ⟨t, rfl⟩
  | succ k ih =>
    intro i s c b hk hi st hb hS fin
    have hlt : i < n := by omega
    refine codeAny_builtin F.entry_min_loop ?_
    rw [Around.under_plainId F.plain_min_loop _]
    show wpAny _ A.in1 (seqItems? (.ref S) >>= _) _ _ s
    refine wpAny_bind (wpAny_seqItems hS (show (bestO b c).data = .seq (bestA b) c from rfl) ?_)
    show wpAny _ A.in1 (tryCatch (pyNext (.ref I)) _ >>= _) _ _ s
    refine wpAny_bind (wpAny_tryCatch (W.item i s _ _ hlt st fun v s' pv st' mv => ?_))
    obtain ⟨u, rfl⟩ := hv i v pv
    have hS2 := mv.heap S _ nw hS
    have stay : ∀ (h' : Heap) (tk : Nat), s'.toks ≤ tk → (∀ b, b ≠ S → h'.get? b = s'.heap.get? b) → St (i + 1) { s' with heap := h', toks := tk } := fun h' tk htk hh => W.frame _ s' _ _ st' htk fun b zb o e => (hh b fun z => hSf (z ▸ zb)).trans e
    cases b with
    | none =>
      show wpAny _ A.in1 (updateSeq S (fun _ => #[Value.int (val i) u, Value.int (val i) u]) >>= _) _ _ _
      refine wpAny_bind ?_
      refine wpAny_updateSeq hS2 rfl ?_
      rw [hN]
      refine wpAny_pure ⟨plainId_quiet F.plain_min_loop _, ih (i + 1) _ _ (some (val i, u)) (by omega) hlt (stay _ s'.toks (Nat.le_refl _) fun b z => Heap.get?_update_other _ _ (Ne.symm z)) ?_ (Heap.get?_update_self _ hS2 rfl) fun v' s'' mv' hv' => ?_⟩
      · show some (val i) = mnTo val (i + 1)
        unfold mnTo
        rw [← hb]
        rfl
      · exact fin v' s'' (Moved.trans W.gtrans ((mv.mono up).then_heap (tk := s'.toks) (Nat.le_refl _) fun b o z e => (Heap.get?_update_other _ _ (hne z)).trans e) mv') hv'
    | some p =>
      obtain ⟨m, t⟩ := p
      have eb : mnTo val (i + 1) = some (if val i < m then val i else m) := by
        have hb2 : some m = mnTo val i := hb
        show some (match mnTo val i with | none => val i | some m => if val i < m then val i else m) = _
        rw [← hb2]
      show wpAny _ A.in1 (tryCatch (holding [Value.int (val i) u, Value.int (val i) u] (richCompare .Lt (Value.int (val i) u) (Value.int m t) >>= _)) _ >>= _) _ _ _
      refine wpAny_bind (wpAny_tryCatch (wpAny_holding (wpAny_bind ((CmpOf.ints_lt (P := fun a v => ∃ t, v = Value.int (if a = 0 then val i else m) t) (fun j : Nat => if j = 0 then val i else m) fun _ _ z => z) 0 1 _ _ _ _ _ ⟨u, rfl⟩ ⟨t, rfl⟩ ?_))))
      refine wpAny_bind (wpAny_holding (wpAny_truthy_bool ?_))
      refine wpAny_bind (wpAny_letGo (wpAny_pure ?_))
      show wpAny _ _ (if decide (val i < m) = true then _ else _) _ _ _
      by_cases hc : val i < m
      · rw [decide_eq_true hc]
        simp only [if_true]
        refine wpAny_bind ?_
        refine wpAny_updateSeq (hz := by show 2 ≤ sizeLine; rw [sizeLine_eq]; decide) hS2 rfl (wpAny_bind (wpAny_letGo ?_))
        rw [hN]
        refine wpAny_pure ⟨plainId_quiet F.plain_min_loop _, ih (i + 1) _ _ (some (val i, u)) (by omega) hlt (stay _ s'.toks (Nat.le_refl _) fun b z => Heap.get?_update_other _ _ (Ne.symm z)) (by rw [eb, if_pos hc]; rfl) (Heap.get?_update_self _ hS2 rfl) fun v' s'' mv' hv' => ?_⟩
        exact fin v' s'' (Moved.trans W.gtrans ((mv.mono up).then_heap (tk := s'.toks) (Nat.le_refl _) fun b o z e => (Heap.get?_update_other _ _ (hne z)).trans e) mv') hv'
      · rw [decide_eq_false hc]
        simp only [Bool.false_eq_true, if_false]
        refine wpAny_bind (wpAny_letGo ?_)
        rw [hN]
        refine wpAny_pure ⟨plainId_quiet F.plain_min_loop _, ih (i + 1) _ _ (some (m, t)) (by omega) hlt st' (by rw [eb, if_neg hc]; rfl) hS2 fun v' s'' mv' hv' => ?_⟩
        exact fin v' s'' (Moved.trans W.gtrans (mv.mono up) mv') hv'
theorem mn_kw {A : Around} {E : Value → Shared → Prop} {s : Shared} {x dv : Value} {Q : Value → Shared → Prop}
    (h : wpAny (model prog w) A.in1 (pyIter x) (fun it s2 => ∃ I fp wr G n P St val, it = .ref I ∧ WalksS prog w A.in1 I fp wr G n P St ∧ St 0 s2 ∧ (∀ b ∈ fp, b < s2.heap.objs.size) ∧ (∀ i v, P i v → ∃ t, v = Value.int (val i) t) ∧
      ∀ v s', Moved wr G s2 s' → endsIn (mnTo val n) dv v → Q v s') E s) : wpAny (model prog w) A (call (.builtin "min") [x] [(Str.ofString "default", dv)]) Q E s := by
  have hN : (toString "min" ++ toString ".loop" : String) = "min.loop" := by decide
  refine kw_tree F.kind_min F.plain_min F.entry_min (by unfold argsOk; kernel_rfl) ?_
  show wpAny _ A.in1 (Builtin.Builtins.bindParams "min" ["key", "default"] 0 ⟨[], [(Str.ofString "default", dv)]⟩ >>= _) _ _ s
  refine wpAny_bind (wpAny_of_eq (show Builtin.Builtins.bindParams "min" ["key", "default"] 0 ⟨[], [(Str.ofString "default", dv)]⟩ = pure [none, some dv] from by kernel_rfl) ?_)
  refine wpAny_bind (wpAny_pure ?_)
  refine wpAny_bind (wpAny_mono h (fun it s2 h2 => ?_) fun _ _ e => e)
  obtain ⟨I, fp, wr, G, n, P, St, val, rfl, W, st, hfp, hval, fin⟩ := h2
  refine wpAny_bind (wpAny_newObj_type ?_)
  have hSf : s2.heap.objs.size ∉ fp := fun z => Nat.lt_irrefl _ (hfp _ z)
  rw [hN]
  refine wpAny_pure ⟨plainId_quiet F.plain_min_loop _, mn_loop W val hval s2.heap.objs.size hSf dv n 0 _ 0 none (Nat.sub_zero n) (Nat.zero_le _) (W.frame 0 s2 _ s2.toks st (Nat.le_refl _) fun b _ o e => Heap.get?_push_of_some _ e) rfl (Heap.get?_push_size _ rfl) fun v s' mv hv => ?_⟩
  exact fin v s' (Moved.drop_new (tk := s2.toks) mv (Nat.le_refl _)) hv
end
theorem ints_nth {its : List Value} {ns : List Int} (h : PyProof.Rows.IntsAre its ns) : ∀ {i : Nat} {v : Value}, its[i]? = some v → ∃ t, v = Value.int (ns.getD i 0) t := by
  induction h with
  | nil => intro i v e; cases i <;> cases e
  | cons x t h ih =>
    intro i v e
    cases i with
    | zero =>
      cases e
      exact ⟨_, rfl⟩
    | succ i =>
      obtain ⟨t2, e2⟩ := ih e
      exact ⟨t2, e2⟩
theorem snocG {α : Type} {P : List α → Prop} (h0 : P []) (hs : ∀ l x, P l → P (l ++ [x])) (l : List α) : P l := by
  have key : ∀ m : List α, P m.reverse := by
    intro m
    induction m with
    | nil => exact h0
    | cons x r ih =>
      rw [List.reverse_cons]
      exact hs _ _ ih
  have := key l.reverse
  rwa [List.reverse_reverse] at this
section
open PySem.Spec PyProof.Rows
def mxL (d : Int) (ns : List Int) : Int := (mxTo (fun i => ns.getD i 0) ns.length).getD d
def mnL (d : Int) (ns : List Int) : Int := (mnTo (fun i => ns.getD i 0) ns.length).getD d
/-- the whole numbers that a walk over it gives -/
def IntsAt (K : PySem.W.Frag) (H : Hp) (a : Addr) (ns : List Int) : Prop := SqL K H a (ns.map V.int) ∨ ∃ kvs : List (Key × V), H a = some (.dK kvs) ∧ kvs.map Prod.fst = ns.map Sum.inl
@[irreducible] def mMaxD (K : PySem.W.Frag) : List V → List V → Hp → VK → Prop := fun vs zs H Q => ∃ (a : Addr) (ns : List Int) (d : Int), vs = [.ref a] ∧ zs = [.int d] ∧ IntsAt K H a ns ∧ Q (.int (mxL d ns)) H
@[irreducible] def mMinD (K : PySem.W.Frag) : List V → List V → Hp → VK → Prop := fun vs zs H Q => ∃ (a : Addr) (ns : List Int) (d : Int), vs = [.ref a] ∧ zs = [.int d] ∧ IntsAt K H a ns ∧ Q (.int (mnL d ns)) H
section
variable {K : PySem.W.Frag} {H : Hp} {Q : VK} {a : Addr} {ns : List Int} {d : Int}
theorem rd_maxD (h : IntsAt K H a ns) (q : Q (.int (mxL d ns)) H) : mMaxD K [.ref a] [.int d] H Q := by
  unfold mMaxD
  exact ⟨a, ns, d, rfl, rfl, h, q⟩
theorem rd_minD (h : IntsAt K H a ns) (q : Q (.int (mnL d ns)) H) : mMinD K [.ref a] [.int d] H Q := by
  unfold mMinD
  exact ⟨a, ns, d, rfl, rfl, h, q⟩
end
/-- such a walk, laid -/
theorem ints_walk {X : Cx} {pins : List (Addr × Obj)} {σ : L2.St} {H : Hp} {s : Shared} {a : Addr} {ns : List Int} {R : Value → Shared → Prop} {Er : Value → Shared → Prop} (hc : X.calm = true) (I : Inv X pins σ H s) (h : IntsAt X.K H a ns)
    (k : ∀ (J : Addr) (fp wr : List Addr) (n : Nat) (P : Nat → Value → Prop) (St : Nat → Shared → Prop) (s2 : Shared), n = ns.length → WalksS X.prog X.w X.A.in1 J fp wr (fun x y => y = x) n P St → St 0 s2 → (∀ b ∈ fp, b < s2.heap.objs.size) → (∀ i v, P i v → ∃ t, v = Value.int (ns.getD i 0) t) →
      (∀ s', Moved wr (fun x y => y = x) s2 s' → Inv X pins σ H s') → R (.ref J) s2) : wpAny (model X.prog X.w) X.A.in1 (pyIter (.ref a)) R Er s := by
  have hh : X.A.in1.handled = none := I.ok.hd hc
  -- the walk's own new object is all that moves
  have old : ∀ (o : Obj) (s' : Shared), Moved [s.heap.objs.size] (fun x y => y = x) { s with heap := s.heap.push o } s' → Inv X pins σ H s' := fun o s' mv => by
    obtain ⟨hp, gs, dr, tk, os⟩ := s'
    obtain ⟨h1, h2, h3, h4, h5⟩ := mv
    dsimp only at h1 h2 h3 h4 h5
    subst h2 h3 h4
    exact I.kept (t' := tk) fun b ob e => h1 b ob (fun z => by
      have := Heap.lt_size e
      rw [List.mem_singleton.mp z] at this
      exact Nat.lt_irrefl _ this) (Heap.get?_push_of_some _ e)
  rcases h with h | ⟨kvs, h, hk⟩
  · obtain ⟨its, rv, hl, _⟩ := I.list h
    have hI := rv.ints
    have ha : a < s.heap.objs.size := by
      obtain ⟨_, _, e, _⟩ := hl
      exact Heap.lt_size e
    have hlen : its.length = ns.length := hI.length
    refine wpAny_pyIter_list hl.isList ?_
    have W := (Walks.list (prog := X.prog) (w := X.w) (A := X.A.in1) hh s.heap.objs.size a (Nat.ne_of_lt ha) its.toArray).toS
    have en : its.toArray.size = ns.length := by
      rw [List.size_toArray]
      exact hlen
    refine k s.heap.objs.size _ _ _ _ _ _ en W ⟨⟨_, Heap.get?_push_size _ rfl, rfl, rfl⟩, hl.isList.push _⟩ (fun b hb => ?_) (fun i v e => ?_) (old _)
    · show b < (s.heap.push _).objs.size
      rw [Heap.size_push]
      rcases List.mem_cons.mp hb with z | z
      · exact z ▸ Nat.lt_succ_self _
      · exact List.mem_singleton.mp z ▸ Nat.lt_succ_of_lt ha
    · rw [List.getElem?_toArray] at e
      have hi : i < its.length := (List.getElem?_eq_some_iff.mp e).1
      obtain ⟨t, e2⟩ := ints_nth hI e
      exact ⟨t, e2⟩
  · obtain ⟨hz, hd, vs, rel, dd⟩ := dk_of I.hok h
    obtain ⟨es, ep, hr, hsz, hen⟩ := Heap.DictOf.raw dd
    have hkeys : vs.map Prod.fst = ns.map Sum.inl := rel.keys.symm.trans hk
    have hl : vs.length = ns.length := by
      have e := congrArg List.length hkeys
      rw [List.length_map, List.length_map] at e
      exact e
    have ha : a < s.heap.objs.size := by
      obtain ⟨o, e, _⟩ := id hr
      exact Heap.lt_size e
    refine wpAny_pyIter_dict_raw hd hr ?_
    have W := (Walks.rawKeys (prog := X.prog) (w := X.w) (A := X.A.in1) hh s.heap.objs.size a (Nat.ne_of_lt ha) es ep).toS
    refine k s.heap.objs.size _ _ _ _ _ _ (hsz.trans hl) W ⟨?_, ?_⟩ (fun b hb => ?_) (fun i v e => ?_) (old _)
    · exact ⟨_, Heap.get?_push_size _ rfl, rfl, rfl⟩
    · exact hr.at fun o e => Heap.get?_push_of_some _ e
    · show b < (s.heap.push _).objs.size
      rw [Heap.size_push]
      rcases List.mem_cons.mp hb with z | z
      · exact z ▸ Nat.lt_succ_self _
      · exact List.mem_singleton.mp z ▸ Nat.lt_succ_of_lt ha
    · obtain ⟨hi, rfl⟩ := e
      have hi2 : i < vs.length := by omega
      have hi3 : i < ns.length := by omega
      have h1 : (mixKind X.prog X.w).is vs[i].1 es[i].key = true := (hen i hi _ _ (List.getElem?_eq_getElem hi2)).1
      have e3 : vs[i].1 = Sum.inl ns[i] := by
        have z : (vs.map Prod.fst)[i]? = (ns.map (Sum.inl (β := Str)))[i]? := by rw [hkeys]
        rw [List.getElem?_map, List.getElem?_map, List.getElem?_eq_getElem hi2, List.getElem?_eq_getElem hi3] at z
        exact Option.some.inj z
      rw [e3] at h1
      obtain ⟨t, e4⟩ := relV_key (k := .inl ns[i]) h1
      refine ⟨t, ?_⟩
      rw [e4, List.getD_eq_getElem?_getD, List.getElem?_eq_getElem hi3]
      rfl
section
variable {X : Cx}
theorem cr_maxDf (hc : X.calm = true) : CallRK X (.builtin "max") [Str.ofString "default"] (mMaxD X.K) := by
  intro pins s σ H vs zs us ws Q I r rz h
  unfold mMaxD at h
  obtain ⟨a, ns, d, rfl, rfl, hn, q⟩ := h
  obtain rfl := Vals.ref1 r
  obtain ⟨w1, rfl, t1, e1⟩ := vals1 rz
  subst e1
  refine mx_kw (dv := .int d t1) (ints_walk hc I hn fun J fp wr n P St s2 en W st hfp hv hI => ⟨J, fp, wr, _, n, P, St, fun i => ns.getD i 0, rfl, W, st, hfp, hv, fun v s' mv hv' => ?_⟩)
  refine ⟨.int (mxL d ns), H, hI _ mv, ?_, q⟩
  unfold mxL
  unfold endsIn at hv'
  rw [en] at hv'
  split at hv'
  · rename_i e
    rw [e]
    exact ⟨t1, hv'⟩
  · rename_i m e
    rw [e]
    exact hv'
theorem cr_minDf (hc : X.calm = true) : CallRK X (.builtin "min") [Str.ofString "default"] (mMinD X.K) := by
  intro pins s σ H vs zs us ws Q I r rz h
  unfold mMinD at h
  obtain ⟨a, ns, d, rfl, rfl, hn, q⟩ := h
  obtain rfl := Vals.ref1 r
  obtain ⟨w1, rfl, t1, e1⟩ := vals1 rz
  subst e1
  refine mn_kw (dv := .int d t1) (ints_walk hc I hn fun J fp wr n P St s2 en W st hfp hv hI => ⟨J, fp, wr, _, n, P, St, fun i => ns.getD i 0, rfl, W, st, hfp, hv, fun v s' mv hv' => ?_⟩)
  refine ⟨.int (mnL d ns), H, hI _ mv, ?_, q⟩
  unfold mnL
  unfold endsIn at hv'
  rw [en] at hv'
  split at hv'
  · rename_i e
    rw [e]
    exact ⟨t1, hv'⟩
  · rename_i m e
    rw [e]
    exact hv'
end
theorem mxTo_ok (val : Nat → Int) : ∀ n : Nat, 0 < n → ∃ m, mxTo val n = some m ∧ (∃ i, i < n ∧ m = val i) ∧ ∀ i, i < n → val i ≤ m := by
  intro n
  induction n with
  | zero => exact fun h => absurd h (Nat.lt_irrefl _)
  | succ n ih =>
    intro _
    by_cases hn : 0 < n
    · obtain ⟨m, e, ⟨i, hi, ei⟩, hm⟩ := ih hn
      refine ⟨if val n > m then val n else m, ?_, ?_, fun j hj => ?_⟩
      · show some (match mxTo val n with | none => val n | some m => if val n > m then val n else m) = _
        rw [e]
      · split
        · exact ⟨n, by omega, rfl⟩
        · exact ⟨i, by omega, ei⟩
      · by_cases hjn : j < n
        · have := hm j hjn
          split <;> omega
        · have : j = n := by omega
          subst this
          split <;> omega
    · have : n = 0 := by omega
      subst this
      refine ⟨val 0, rfl, ⟨0, by omega, rfl⟩, fun j hj => ?_⟩
      obtain rfl : j = 0 := by omega
      exact Int.le_refl _
theorem mnTo_ok (val : Nat → Int) : ∀ n : Nat, 0 < n → ∃ m, mnTo val n = some m ∧ (∃ i, i < n ∧ m = val i) ∧ ∀ i, i < n → m ≤ val i := by
  intro n
  induction n with
  | zero => exact fun h => absurd h (Nat.lt_irrefl _)
  | succ n ih =>
    intro _
    by_cases hn : 0 < n
    · obtain ⟨m, e, ⟨i, hi, ei⟩, hm⟩ := ih hn
      refine ⟨if val n < m then val n else m, ?_, ?_, fun j hj => ?_⟩
      · show some (match mnTo val n with | none => val n | some m => if val n < m then val n else m) = _
        rw [e]
      · split
        · exact ⟨n, by omega, rfl⟩
        · exact ⟨i, by omega, ei⟩
      · by_cases hjn : j < n
        · have := hm j hjn
          split <;> omega
        · have : j = n := by omega
          subst this
          split <;> omega
    · have : n = 0 := by omega
      subst this
      refine ⟨val 0, rfl, ⟨0, by omega, rfl⟩, fun j hj => ?_⟩
      obtain rfl : j = 0 := by omega
      exact Int.le_refl _
theorem mxL_nil {d : Int} : mxL d [] = d := rfl
theorem mnL_nil {d : Int} : mnL d [] = d := rfl
theorem mxL_ok {d : Int} {ns : List Int} (h : ns ≠ []) : mxL d ns ∈ ns ∧ ∀ y ∈ ns, y ≤ mxL d ns := by
  obtain ⟨m, e, ⟨i, hi, ei⟩, hm⟩ := mxTo_ok (fun i => ns.getD i 0) ns.length (List.length_pos_iff.mpr h)
  unfold mxL
  rw [e]
  refine ⟨?_, fun y hy => ?_⟩
  · show m ∈ ns
    rw [ei]
    show ns.getD i 0 ∈ ns
    rw [List.getD_eq_getElem?_getD, List.getElem?_eq_getElem hi]
    exact List.getElem_mem hi
  · obtain ⟨j, hj, ej⟩ := List.mem_iff_getElem.mp hy
    have := hm j hj
    rw [List.getD_eq_getElem?_getD, List.getElem?_eq_getElem hj, Option.getD_some, ej] at this
    exact this
theorem mnL_ok {d : Int} {ns : List Int} (h : ns ≠ []) : mnL d ns ∈ ns ∧ ∀ y ∈ ns, mnL d ns ≤ y := by
  obtain ⟨m, e, ⟨i, hi, ei⟩, hm⟩ := mnTo_ok (fun i => ns.getD i 0) ns.length (List.length_pos_iff.mpr h)
  unfold mnL
  rw [e]
  refine ⟨?_, fun y hy => ?_⟩
  · show m ∈ ns
    rw [ei]
    show ns.getD i 0 ∈ ns
    rw [List.getD_eq_getElem?_getD, List.getElem?_eq_getElem hi]
    exact List.getElem_mem hi
  · obtain ⟨j, hj, ej⟩ := List.mem_iff_getElem.mp hy
    have := hm j hj
    rw [List.getD_eq_getElem?_getD, List.getElem?_eq_getElem hj, Option.getD_some, ej] at this
    exact this
end
/-! ### lists of a dict's keys; sorted; get and setdefault -/
section
open PySem.Spec PyProof.Rows
variable {X : Cx} {K : PySem.W.Frag} {H : Hp} {Q : VK} {a : Addr} {kvs : List (Key × V)} {ns : List Int} {n : Int} {z v : V}
@[irreducible] def mListD : List V → Hp → VK → Prop := fun xs H Q => ∃ (a : Addr) (kvs : List (Key × V)) (ns : List Int), xs = [.ref a] ∧ H a = some (.dK kvs) ∧ kvs.map Prod.fst = ns.map Sum.inl ∧ NewO (.lst (ns.map V.int)) H Q
theorem rd_listD (h : H a = some (.dK kvs)) (hk : kvs.map Prod.fst = ns.map Sum.inl) (q : NewO (.lst (ns.map V.int)) H Q) : mListD [.ref a] H Q := by
  unfold mListD
  exact ⟨a, kvs, ns, rfl, h, hk, q⟩
theorem keys_vals : ∀ {kvs : List (Key × V)} {ns : List Int}, kvs.map Prod.fst = ns.map Sum.inl → (kvs.map fun kv => kV kv.1) = ns.map V.int
  | [], [], _ => rfl
  | [], _ :: _, h => nomatch h
  | _ :: _, [], h => nomatch h
  | x :: r, n :: ns, h => by
    injection h with h1 h2
    rw [List.map_cons, List.map_cons, keys_vals h2, h1]
    rfl
theorem call_listDM (hc : X.calm = true) : CallR X (.type "list") mListD := fun pins s σ H xs us Q I r q => call_listD hc pins s σ H xs us Q I r (by
  unfold mListD at q
  obtain ⟨a, kvs, ns, e, h, hk, q⟩ := q
  refine ⟨a, kvs, e, .inl h, ?_⟩
  rw [keys_vals hk]
  exact q.go)
@[irreducible] def mSortD : List V → Hp → VK → Prop := fun xs H Q => ∃ (a : Addr) (kvs : List (Key × V)) (ns : List Int), xs = [.ref a] ∧ H a = some (.dK kvs) ∧ kvs.map Prod.fst = ns.map Sum.inl ∧ ns.length < 64 ∧ ∀ ys : List Int, ys.Perm ns → ys.Pairwise (· ≤ ·) → NewO (.lst (ys.map V.int)) H Q
theorem rd_sortD (h : H a = some (.dK kvs)) (hk : kvs.map Prod.fst = ns.map Sum.inl) (hl : ns.length < 64) (q : ∀ ys : List Int, ys.Perm ns → ys.Pairwise (· ≤ ·) → NewO (.lst (ys.map V.int)) H Q) : mSortD [.ref a] H Q := by
  unfold mSortD
  exact ⟨a, kvs, ns, rfl, h, hk, hl, q⟩
theorem call_sortDM (hc : X.calm = true) : CallR X (.builtin "sorted") mSortD := fun pins s σ H xs us Q I r q => call_sortedDI hc pins s σ H xs us Q I r (by
  unfold mSortD at q
  obtain ⟨a, kvs, ns, e, h, hk, hl, q⟩ := q
  exact ⟨a, kvs, ns, e, .inl h, hk, hl, fun ys p hp ho => (q ys hp ho).go p⟩)
@[irreducible] def mSortL (K : PySem.W.Frag) : List V → Hp → VK → Prop := fun xs H Q => ∃ (a : Addr) (ns : List Int), xs = [.ref a] ∧ SqL K H a (ns.map V.int) ∧ ns.length < 64 ∧ ∀ ys : List Int, ys.Perm ns → ys.Pairwise (· ≤ ·) → NewO (.lst (ys.map V.int)) H Q
theorem rd_sortL (h : SqL K H a (ns.map V.int)) (hl : ns.length < 64) (q : ∀ ys : List Int, ys.Perm ns → ys.Pairwise (· ≤ ·) → NewO (.lst (ys.map V.int)) H Q) : mSortL K [.ref a] H Q := by
  unfold mSortL
  exact ⟨a, ns, rfl, h, hl, q⟩
theorem call_sortLM : CallR X (.builtin "sorted") (mSortL X.K) := fun pins s σ H xs us Q I r q => cr_sorted pins s σ H xs us Q I r (by
  unfold mSortL at q
  obtain ⟨a, ns, e, h, hl, q⟩ := q
  exact ⟨a, ns, e, h, hl, fun ys p hp ho => (q ys hp ho).go p⟩)
@[irreducible] def mDGet2 (x y z : V) (H : Hp) (Q : VK) : Prop := ∃ a kvs k, x = .ref a ∧ y = kV k ∧ H a = some (.dK kvs) ∧ Q ((valV kvs k).getD z) H
theorem rd_dget2 (h : H a = some (.dK kvs)) (q : Q ((valV kvs (.inl n)).getD z) H) : mDGet2 (.ref a) (.int n) z H Q := by
  unfold mDGet2
  exact ⟨a, kvs, .inl n, rfl, rfl, h, q⟩
def mDGet2E (td ty tz : TE) : TE := fun σ H Q => td σ H fun x H1 => ∃ a kvs, x = .ref a ∧ H1 a = some (.dK kvs) ∧ ty σ H1 fun y H2 => tz σ H2 fun z H3 => mDGet2 x y z H3 Q
@[irreducible] def mDSetd (x y z : V) (H : Hp) (Q : VK) : Prop := ∃ a kvs k, x = .ref a ∧ y = kV k ∧ H a = some (.dK kvs) ∧ kvs.length < 1000000 ∧ (∀ v, valV kvs k = some v → Q v H) ∧ (valV kvs k = none → Q z (upd H a (.dK (putK kvs k z))))
theorem rd_dsetd (h : H a = some (.dK kvs)) (hl : kvs.length < 1000000) (q1 : ∀ v, valV kvs (.inl n) = some v → Q v H) (q2 : valV kvs (.inl n) = none → Q z (upd H a (.dK (putK kvs (.inl n) z)))) : mDSetd (.ref a) (.int n) z H Q := by
  unfold mDSetd
  exact ⟨a, kvs, .inl n, rfl, rfl, h, hl, q1, q2⟩
def mDSetdE (td ty tz : TE) : TE := fun σ H Q => td σ H fun x H1 => ∃ a kvs, x = .ref a ∧ H1 a = some (.dK kvs) ∧ ty σ H1 fun y H2 => tz σ H2 fun z H3 => mDSetd x y z H3 Q
theorem pe_dget2M {o e f : Expr} {td ty tz : TE} {apos cpos : Pos} (hu : X.A.units + 1 < cLine) (ho : PE X o td) (he : PE X e ty) (hf : PE X f tz) (hbase : attributeBase o "get" X.env (eval o X.env) = eval o X.env := by rfl)
    (hfew : ((backTo cpos (starEach [e, f] X.env)).all (fun x => !x.1) && (backToKw cpos (keywordEach [] X.env)).all (fun x => x.1.isSome) && decide (([e, f] : List Expr).length + ([] : List Keyword).length + (if ([] : List Keyword).isEmpty then 0 else 1) < 30)) = true := by rfl)
    (hline : (apos.endLine == cpos.line) = true := by rfl) (htr : backTo cpos (starEach [e, f] X.env) = [(false, eval e X.env), (false, eval f X.env)] := by rfl) : PE X (.Call (.Attribute o "get" apos) [e, f] [] cpos) (mDGet2E td ty tz) :=
  pe_weak (pe_dget2 hu (pe_c ho) (pe_c he) (pe_c hf) ⟨hbase, hfew, hline, htr⟩) fun σ H Q q => ⟨_, q, fun x H1 r => by
    obtain ⟨a, kvs, rfl, h, r⟩ := r
    refine ⟨a, rfl, .inl ⟨kvs, .inl h⟩, _, r, fun y H2 r => ⟨_, r, fun z H3 r => ?_⟩⟩
    unfold mDGet2 at r
    obtain ⟨a2, kvs2, k, e1, e2, h2, r⟩ := r
    cases e1
    exact ⟨_, e2 ▸ DGet.k h2, r⟩⟩
theorem pe_dsetdM {o e f : Expr} {td ty tz : TE} {apos cpos : Pos} (ho : PE X o td) (he : PE X e ty) (hf : PE X f tz) (hbase : attributeBase o "setdefault" X.env (eval o X.env) = eval o X.env := by rfl)
    (hfew : ((backTo cpos (starEach [e, f] X.env)).all (fun x => !x.1) && (backToKw cpos (keywordEach [] X.env)).all (fun x => x.1.isSome) && decide (([e, f] : List Expr).length + ([] : List Keyword).length + (if ([] : List Keyword).isEmpty then 0 else 1) < 30)) = true := by rfl)
    (hline : (apos.endLine == cpos.line) = true := by rfl) (htr : backTo cpos (starEach [e, f] X.env) = [(false, eval e X.env), (false, eval f X.env)] := by rfl) : PE X (.Call (.Attribute o "setdefault" apos) [e, f] [] cpos) (mDSetdE td ty tz) :=
  pe_weak (pe_dsetd (pe_c ho) (pe_c he) (pe_c hf) ⟨hbase, hfew, hline, htr⟩) fun σ H Q q => ⟨_, q, fun x H1 r => by
    obtain ⟨a, kvs, rfl, h, r⟩ := r
    refine ⟨a, rfl, .inl ⟨kvs, .inl h⟩, _, r, fun y H2 r => ⟨_, r, fun z H3 r => ?_⟩⟩
    unfold mDSetd at r
    obtain ⟨a2, kvs2, k, e1, e2, h2, hl, q1, q2⟩ := r
    cases e1
    exact ⟨kvs2, k, h2, e2, szl hl, q1, q2⟩⟩
/-! ### in, not in: lists of data -/
@[irreducible] def mInD (K : PySem.W.Frag) : R2 := rInD K
@[irreducible] def mNotInD (K : PySem.W.Frag) : R2 := rNotInD K
theorem hu65 {A : Around} {k : Nat} (r : Room k A) : A.units + 65 < cLine := by
  have := r.un
  omega
theorem op_inDM (hu : X.A.units + 65 < cLine) : OpR X (compareOp .In) (mInD X.K) := fun pins s σ H x y v u Q I rx ry q => op_inD hu pins s σ H x y v u Q I rx ry (by
  unfold mInD at q
  exact q)
theorem op_notInDM (hu : X.A.units + 65 < cLine) : OpR X (compareOp .NotIn) (mNotInD X.K) := fun pins s σ H x y v u Q I rx ry q => op_notInD hu pins s σ H x y v u Q I rx ry (by
  unfold mNotInD at q
  exact q)
theorem op_inDK (h : X.K = K) (hu : X.A.units + 65 < cLine) : OpR X (compareOp .In) (mInD K) := h ▸ op_inDM hu
theorem op_notInDK (h : X.K = K) (hu : X.A.units + 65 < cLine) : OpR X (compareOp .NotIn) (mNotInD K) := h ▸ op_notInDM hu
theorem rd_inD {x y : V} {m k : Nat} (d : PyData) (ds : List PyData) (h1 : Dp K H x d) (h2 : Dp K H y (.list ds)) (s1 : Sh m d) (s2 : ShA k ds) (q : Q (.bl (ds.any fun z => PyData.eqv z d)) H) (hm : m ≤ 64 := by decide) (hk : k + 1 ≤ 64 := by decide) : mInD K x y H Q := by
  unfold mInD
  exact ⟨d, ds, h1, h2, s1.shaped hm, (sh_lst s2).shaped hk, q⟩
theorem rd_notInD {x y : V} {m k : Nat} (d : PyData) (ds : List PyData) (h1 : Dp K H x d) (h2 : Dp K H y (.list ds)) (s1 : Sh m d) (s2 : ShA k ds) (q : Q (.bl (!ds.any fun z => PyData.eqv z d)) H) (hm : m ≤ 64 := by decide) (hk : k + 1 ≤ 64 := by decide) : mNotInD K x y H Q := by
  unfold mNotInD
  exact ⟨d, ds, h1, h2, s1.shaped hm, (sh_lst s2).shaped hk, q⟩
theorem any_ints (n : Int) : ∀ ns : List Int, ((ns.map PyData.int).any fun z => PyData.eqv z (.int n)) = decide (n ∈ ns)
  | [] => by simp
  | m :: r => by
    rw [List.map_cons, List.any_cons, any_ints n r, PyData.eqv]
    by_cases h : m = n
    · subst h
      simp
    · have h2 : ¬ n = m := fun e => h e.symm
      simp [h, h2]
theorem rd_inI (h : SqL K H a (ns.map V.int)) (q : Q (.bl (decide (n ∈ ns))) H) : mInD K (.int n) (.ref a) H Q :=
  rd_inD (m := 0) (k := 0) (.int n) (ns.map PyData.int) (.int n) (dp_ints h) sh_int (sh_ints ns) (by rw [any_ints]; exact q)
theorem rd_notInI (h : SqL K H a (ns.map V.int)) (q : Q (.bl (!decide (n ∈ ns))) H) : mNotInD K (.int n) (.ref a) H Q :=
  rd_notInD (m := 0) (k := 0) (.int n) (ns.map PyData.int) (.int n) (dp_ints h) sh_int (sh_ints ns) (by rw [any_ints]; exact q)
end
/-! ### for i, x in enumerate(xs) -/
@[irreducible] def mForE (K : PySem.W.Frag) (ta : TA) (i1 i2 : Nat) (tb : TS) : TS := fun D σ H => ta σ H fun ws H1 => ∃ (a : Addr) (xs : List V) (Pv : Nat → L2.St → Hp → Prop), ws = [.ref a] ∧ SqL K H1 a xs ∧ Pv 0 σ H1 ∧ (∀ i σ' H', i ≤ xs.length → Pv i σ' H' → SqL K H' a xs) ∧
  (∀ i x σ' H' H'', xs[i]? = some x → Pv i σ' H' → Same H' H'' → tb { D with nx := Pv (i + 1), ct := Pv (i + 1), bk := D.nx } ((σ'.set i1 (some (.int (i : Nat)))).set i2 (some x)) H'') ∧ ∀ σ' H', Pv xs.length σ' H' → D.nx σ' H'
theorem rd_forE {K : PySem.W.Frag} {ta : TA} {i1 i2 : Nat} {tb : TS} {D : Ends} {σ : L2.St} {H : Hp} (h : ta σ H fun ws H1 => ∃ (a : Addr) (xs : List V) (Pv : Nat → L2.St → Hp → Prop), ws = [.ref a] ∧ SqL K H1 a xs ∧ Pv 0 σ H1 ∧ (∀ i σ' H', i ≤ xs.length → Pv i σ' H' → SqL K H' a xs) ∧
  (∀ i x σ' H' H'', xs[i]? = some x → Pv i σ' H' → Same H' H'' → tb { D with nx := Pv (i + 1), ct := Pv (i + 1), bk := D.nx } ((σ'.set i1 (some (.int (i : Nat)))).set i2 (some x)) H'') ∧ ∀ σ' H', Pv xs.length σ' H' → D.nx σ' H') : mForE K ta i1 i2 tb D σ H := by
  unfold mForE
  exact h
theorem ps_forE {X : Cx} {ta : TA} {pos : Pos} {e : Expr} {kk : Nat} {p p2 tpos : Pos} {i1 i2 : Nat} {body : List Stmt} {tb : TS} {t1 t2 : Expr} (hp : PassesOwn (model X.prog X.w) X.A X.env X.xe) (hc : X.calm = true) (hg : Gl X "enumerate") (hm : X.mg "enumerate" = none) (ha : PA X [e] ta)
    (hgt : PG X (.Tuple [t1, t2] kk tpos) (gTup X.K 2 (gCons (gName i1) (gCons (gName i2) gNil)))) (hb : PSs X body tb)
    (hs : starEach [e] X.env = [(false, eval e X.env)] := by rfl) (hs2 : ∀ y, foldedSetIterable (.Call (.Name "enumerate" p) [e] [] p2) X.env y = pure y := by intro _; rfl) :
    PS X (.For (.Tuple [t1, t2] kk tpos) (.Call (.Name "enumerate" p) [e] [] p2) body [] pos) (mForE X.K ta i1 i2 tb) :=
  ps_weak (ps_for hp hc (pi_enum hg hm (pa_c ha) hs) hgt hb hs2) fun D σ H q => by
    unfold mForE at q
    refine ⟨_, q, fun ws H1 r => ?_⟩
    obtain ⟨a, xs, Pv, rfl, hx, h0, hq, hs, hd⟩ := r
    refine ⟨a, xs, rfl, hx, ?_⟩
    refine for_it (walk_enum (K := X.K) (a := a) (xs := xs)) Pv h0 hq (fun i x σ' H' H'' hi p y => ?_) hd
    obtain ⟨T, u, v, rfl, hT, rfl, e1, e2⟩ := y
    cases e1
    exact ⟨T, [.int (i : Nat), v], rfl, st_of upd_same, rfl, .int (i : Nat), [v], rfl, v, [], rfl, rfl, hs i v σ' H' _ e2 p (same_upd hT)⟩
/-! ### [e for k in d if t], d a local's dict -/
section
variable {X : Cx} {K : PySem.W.Frag}
theorem im_keys {td : TE} : IMono (iKeys td) (iKeys (cTE td)) := fun σ H R R' h q => ⟨_, q, fun v H' r => by
  obtain ⟨d, o, e, r⟩ := r
  refine ⟨d, o, e, ?_⟩
  rcases r with ⟨kvs, h1, r⟩ | ⟨kvs, h1, r⟩
  · exact .inl ⟨kvs, h1, h _ _ r⟩
  · exact .inr ⟨kvs, h1, h _ _ r⟩⟩
@[irreducible] def mLcK (i j : Nat) (tt : TT) (te : TE) : TE := fun σ H Q => ∃ (d : Addr) (kvs : List (Key × V)) (ns : List Int) (keep : Int → Bool) (f : Int → V), σ[i]? = some (some (.ref d)) ∧ H d = some (.dK kvs) ∧ kvs.map Prod.fst = ns.map Sum.inl ∧ ns.length ≤ 100000 ∧
  (∀ n, n ∈ ns → ∀ H', (∀ b o, b ≠ d → H b = some o → H' b = some o) → tt ((wipe σ [j]).set j (some (.int n))) H' fun b H2 => Same H' H2 ∧ b = keep n ∧ (b = true → te ((wipe σ [j]).set j (some (.int n))) H2 fun v H3 => Same H2 H3 ∧ v = f n)) ∧ NewO (.lst ((ns.filter keep).map f)) H Q
theorem rd_lcK {i j : Nat} {tt : TT} {te : TE} {σ : L2.St} {H : Hp} {Q : VK} (d : Addr) (kvs : List (Key × V)) (ns : List Int) (keep : Int → Bool) (f : Int → V) (h1 : σ[i]? = some (some (.ref d))) (h2 : H d = some (.dK kvs)) (h3 : kvs.map Prod.fst = ns.map Sum.inl) (h4 : ns.length ≤ 100000)
    (h5 : ∀ n, n ∈ ns → ∀ H', (∀ b o, b ≠ d → H b = some o → H' b = some o) → tt ((wipe σ [j]).set j (some (.int n))) H' fun b H2 => Same H' H2 ∧ b = keep n ∧ (b = true → te ((wipe σ [j]).set j (some (.int n))) H2 fun v H3 => Same H2 H3 ∧ v = f n))
    (q : NewO (.lst ((ns.filter keep).map f)) H Q) : mLcK i j tt te σ H Q := by
  unfold mLcK
  exact ⟨d, kvs, ns, keep, f, h1, h2, h3, h4, h5, q⟩
theorem filter_idx {α β : Type} (keep : α → Bool) (f : α → β) (d : α) : ∀ l : List α, ((List.range l.length).filter fun i => keep (l.getD i d)).map (fun i => f (l.getD i d)) = (l.filter keep).map f := by
  refine snocG ?_ ?_
  · rfl
  · intro l x ih
    rw [List.length_append, List.length_singleton, List.range_succ, List.filter_append, List.map_append, List.filter_append, List.map_append, ← ih]
    have hx : (l ++ [x]).getD l.length d = x := by
      rw [List.getD_eq_getElem?_getD, List.getElem?_append_right (Nat.le_refl _), Nat.sub_self]
      rfl
    have hl : ∀ i, i ∈ List.range l.length → (l ++ [x]).getD i d = l.getD i d := fun i hi => by
      rw [List.getD_eq_getElem?_getD, List.getD_eq_getElem?_getD, List.getElem?_append_left (List.mem_range.mp hi)]
    congr 1
    · have e1 : (List.range l.length).filter (fun i => keep ((l ++ [x]).getD i d)) = (List.range l.length).filter (fun i => keep (l.getD i d)) := List.filter_congr fun i hi => by rw [hl i hi]
      rw [e1]
      exact List.map_congr_left fun i hi => by rw [hl i (List.mem_filter.mp hi).1]
    · rw [List.filter_cons, List.filter_cons, hx]
      cases keep x with
      | true => simp only [if_true, List.filter_nil, List.map_cons, List.map_nil, hx]
      | false => rfl
theorem pe_lcK {elt it : Expr} {scope : Scope} {i j : Nat} {x : Str} {xpos pos : Pos} {ifs : List Expr} {tt : TT} {te : TE} (hc : X.calm = true) (hN : X.N.Nodup) (ha : PE X it (fun σ H Q => ∃ v, σ[i]? = some (some v) ∧ Q v H)) (ok : BlkOk X.N X.env.scope scope [(x, j)])
    (hgt : ∀ (s : Shared) (H : Hp) (C : Addr) (cl : List (Str × Addr)) (fp : List Addr), PG (X.blk s H scope (compEnvC scope cl C X.env) fp) (.Name x xpos) (gName j))
    (ht : ∀ (s : Shared) (H : Hp) (C : Addr) (cl : List (Str × Addr)) (fp : List Addr), PTs (X.blk s H scope (compEnvC scope cl C X.env) fp) ifs tt)
    (he : ∀ (s : Shared) (H : Hp) (C : Addr) (cl : List (Str × Addr)) (fp : List Addr), PE (X.blk s H scope (compEnvC scope cl C X.env) fp) elt te) (hs2 : ∀ y, foldedSetIterable it X.env y = pure y := by intro _; rfl) :
    PE X (.ListComp elt [⟨.Name x xpos, it, ifs, 0⟩] scope pos) (mLcK i j tt te) :=
  pe_weak (pe_lock (pe_lcP (wi' := iKeys fun σ H Q => ∃ v, σ[i]? = some (some v) ∧ Q v H) [j] im_keys hc hN (pi_keys (pe_c ha)) ok hgt (fun s H C cl fp => pts_c (ht s H C cl fp)) (fun s H C cl fp => pe_c (he s H C cl fp)) rfl hs2)) fun σ H Q q => by
    unfold mLcK at q
    obtain ⟨d, kvs, ns, keep, f, h1, h2, h3, h4, h5, q⟩ := q
    have hkl : kvs.length = ns.length := by
      have e := congrArg List.length h3
      rw [List.length_map, List.length_map] at e
      exact e
    refine ⟨d, .dK kvs, h2, trivial, fun od => ?_⟩
    unfold mLcP
    refine ⟨.ref d, h1, d, od, rfl, .inl ⟨kvs, upd_same, ?_⟩⟩
    have nd : ∀ {p : Addr}, (upd H d (.frz od (.dK kvs))) p = none → p ≠ d := fun z e => by
      rw [e, upd_same] at z
      cases z
    refine ⟨kvs.length, _, _, fun k => keep (ns.getD k 0), fun k => f (ns.getD k 0), walk_keys (d := d) (o := od) (kvs := kvs), by omega, fun H' s => s _ _ upd_same, fun D hD k y H' H'' hk p w => ?_, fun p H' np s e => ?_⟩
    · obtain ⟨rfl, ky, vy, hkv, rfl⟩ := w
      have hk2 : k < ns.length := by omega
      have ek : ky = Sum.inl (ns.getD k 0) := by
        have z : (kvs.map Prod.fst)[k]? = (ns.map (Sum.inl (β := Str)))[k]? := by rw [h3]
        rw [List.getElem?_map, List.getElem?_map, hkv, List.getElem?_eq_getElem hk2] at z
        rw [List.getD_eq_getElem?_getD, List.getElem?_eq_getElem hk2]
        exact Option.some.inj z
      subst ek
      have hin : ns.getD k 0 ∈ ns := by
        rw [List.getD_eq_getElem?_getD, List.getElem?_eq_getElem hk2]
        exact List.getElem_mem hk2
      have base : ∀ b o, b ≠ d → H b = some o → H'' b = some o := fun b o hb e => p.sm _ _ (by rw [upd_ne hb]; exact e)
      have hh := h5 _ hin H'' base
      refine ⟨wipe_set rfl, _, hh, fun b H2 r => ?_⟩
      obtain ⟨s1, rfl, r⟩ := r
      cases hb : keep (ns.getD k 0) with
      | true =>
        refine br_T ⟨_, r hb, fun v H3 r2 => ?_⟩
        obtain ⟨s2, rfl⟩ := r2
        exact p.put hD (by omega) (s1.trans s2) hb rfl
      | false => exact br_F (p.skip s1 hb)
    · have hpd : p ≠ d := nd np
      rw [hkl, filter_idx keep f 0 ns] at e
      refine ⟨s _ _ upd_same, q p (upd H' d (.dK kvs)) (by rw [upd_ne hpd] at np; exact np) (fun b o hb => ?_) (by rw [upd_ne hpd]; exact e)⟩
      by_cases hbd : b = d
      · subst hbd
        rw [upd_same]
        rw [h2] at hb
        exact hb
      · rw [upd_ne hbd]
        exact s _ _ (by rw [upd_ne hbd]; exact hb)
end
/-! ### new tuples, told to be new -/
def EltF (te : TE) (σ : L2.St) (H : Hp) (xs : List V) : Prop := ∀ H', Same H H' → te σ H' fun v H'' => Same H' H'' ∧ ∃ p, v = .ref p ∧ H' p = none ∧ H'' p = some (.tup xs)
def NewTF (n : Nat) (f : Nat → List V) (H : Hp) (Q : VK) : Prop := ∀ (D : Addr) (H' : Hp) (ps : List Addr), H D = none → Same H H' → H' D = some (.lst (ps.map V.ref)) → ps.length = n → (∀ i p, ps[i]? = some p → H p = none ∧ H' p = some (.tup (f i))) → Q (.ref D) H'
def TsF (H1 : Hp) (D : Addr) (f : Nat → List V) (i : Nat) (H' : Hp) : Prop := Same H1 H' ∧ ∃ ps : List Addr, H' D = some (.lst (ps.map V.ref)) ∧ ps.length = i ∧ ∀ k p, ps[k]? = some p → H1 p = none ∧ H' p = some (.tup (f k))
theorem TsF.next {H1 H' H'' : Hp} {D p : Addr} {f : Nat → List V} {i : Nat} (hD : H1 D = none) (w : TsF H1 D f i H') (s : Same H' H'') (hn : H' p = none) (hp : H'' p = some (.tup (f i))) : ∃ acc, H'' D = some (.lst acc) ∧ acc.length = i ∧ TsF H1 D f (i + 1) (upd H'' D (.lst (acc ++ [.ref p]))) := by
  obtain ⟨sm, ps, hd, hl, ht⟩ := w
  have hd2 := s _ _ hd
  have ne : ∀ {q : Addr} {xs : List V}, H'' q = some (.tup xs) → q ≠ D := fun {q xs} h e => by
    rw [e, hd2] at h
    cases h
  refine ⟨_, hd2, by rw [List.length_map, hl], same_mut (sm.trans s) hD, ps ++ [p], ?_, by rw [List.length_append, List.length_singleton, hl], fun k q hk => ?_⟩
  · rw [upd_same, List.map_append]
    rfl
  · by_cases h : k < ps.length
    · rw [List.getElem?_append_left h] at hk
      have h2 := ht k q hk
      have h3 := s _ _ h2.2
      refine ⟨h2.1, ?_⟩
      rw [upd_ne (ne h3)]
      exact h3
    · rw [List.getElem?_append_right (by omega)] at hk
      have h0 : k - ps.length = 0 := by
        cases e : k - ps.length with
        | zero => rfl
        | succ m => rw [e] at hk; simp at hk
      rw [h0] at hk
      have e : p = q := Option.some.inj hk
      have ek : k = i := by omega
      subst e
      rw [ek, upd_ne (ne hp)]
      exact ⟨same_none sm hn, hp⟩
/-! ### [(..) for x in range(a, b)] -/
@[irreducible] def mLcTR2 (ta : TA) (j : Nat) (te : TE) (vs : List Nat) : TE := fun σ H Q => ta σ H fun ws H1 => ∃ (lo hi : Int) (f : Nat → List V), ws = [.int lo, .int hi] ∧ (-100000 ≤ lo ∧ lo ≤ 100000 ∧ -100000 ≤ hi ∧ hi ≤ 100000) ∧ (∀ i, i < (hi - lo).toNat → EltF te ((wipe σ vs).set j (some (.int (lo + (i : Int))))) H1 (f i)) ∧ NewTF (hi - lo).toNat f H1 Q
theorem rd_lcTR2 {ta : TA} {j : Nat} {te : TE} {vs : List Nat} {σ : L2.St} {H : Hp} {Q : VK} (h : ta σ H fun ws H1 => ∃ (lo hi : Int) (f : Nat → List V), ws = [.int lo, .int hi] ∧ (-100000 ≤ lo ∧ lo ≤ 100000 ∧ -100000 ≤ hi ∧ hi ≤ 100000) ∧ (∀ i, i < (hi - lo).toNat → EltF te ((wipe σ vs).set j (some (.int (lo + (i : Int))))) H1 (f i)) ∧ NewTF (hi - lo).toNat f H1 Q) : mLcTR2 ta j te vs σ H Q := by
  unfold mLcTR2
  exact h
theorem lcTR2_of {ta : TA} {j : Nat} {te : TE} {vs : List Nat} {σ : L2.St} {H : Hp} {Q : VK} (hj : vs = [j]) (q : mLcTR2 ta j te vs σ H Q) : tLc (iRng2 (cTA ta)) (gName j) tYes (cTE te) vs σ H Q := by
  unfold mLcTR2 at q
  refine ⟨_, q, fun ws H1 r => ?_⟩
  obtain ⟨lo, hi, f, rfl, ⟨h1, h2, h3, h4⟩, he, hq⟩ := r
  have big : (2 : Int) ^ 62 = 4611686018427387904 := by decide
  refine ⟨lo, hi, rfl, ⟨by omega, by omega, by omega, by omega⟩, fun D hD => ?_⟩
  refine lc_range (lo := lo) (n := (hi - lo).toNat) (fun i H' => TsF H1 D f i H') ⟨same_upd hD, [], upd_same, rfl, fun k p h => by cases h⟩ (fun i H' hi w => ⟨wipe_set hj, _, he i hi H' w.1, fun v H'' r => ?_⟩) fun H' w => ?_
  · obtain ⟨s, p, rfl, hn, hp⟩ := r
    obtain ⟨acc, k1, k2, k3⟩ := w.next hD s hn hp
    exact ⟨acc, k1, szl (by omega), k3⟩
  · obtain ⟨sm, ps, hd, hl, ht⟩ := w
    exact hq D H' ps hD sm hd hl ht
section
variable {X : Cx} {te : TE} {ta : TA} {pos : Pos}
theorem pe_lcTR2 {elt : Expr} {scope : Scope} {j : Nat} {x : Str} {a b : Expr} {p p2 xpos : Pos} (hc : X.calm = true) (hN : X.N.Nodup) (hg : Gl X "range") (hm : X.mg "range" = none) (ha : PA X [a, b] ta) (ok : BlkOk X.N X.env.scope scope [(x, j)])
    (hgt : ∀ (s : Shared) (H : Hp) (C : Addr) (cl : List (Str × Addr)) (fp : List Addr), PG (X.blk s H scope (compEnvC scope cl C X.env) fp) (.Name x xpos) (gName j))
    (he : ∀ (s : Shared) (H : Hp) (C : Addr) (cl : List (Str × Addr)) (fp : List Addr), PE (X.blk s H scope (compEnvC scope cl C X.env) fp) elt te)
    (hs : starEach [a, b] X.env = [(false, eval a X.env), (false, eval b X.env)] := by rfl) (hs3 : starEach [b] X.env = [(false, eval b X.env)] := by rfl) (hs2 : ∀ y, foldedSetIterable (.Call (.Name "range" p) [a, b] [] p2) X.env y = pure y := by intro _; rfl) :
    PE X (.ListComp elt [⟨.Name x xpos, .Call (.Name "range" p) [a, b] [] p2, [], 0⟩] scope pos) (mLcTR2 ta j te [j]) :=
  pe_weak (pe_lc hc hN (pi_range2 hg hm (pa_c ha) hs hs3) ok hgt (fun _ _ _ _ _ => pts_nil) (fun s H C cl fp => pe_c (he s H C cl fp)) hs2) fun _ _ _ q => lcTR2_of rfl q
end
/-- new objects join what stays -/
theorem Own.adopt {S B0 B H H' : Hp} {as : List Addr} {l : List (Addr × HO)} (w : Own S B0 as B l H) (s : Same H H') (ps : List Addr) (hp : ∀ p ∈ ps, H p = none ∧ H' p ≠ none) : ∃ B', Same B B' ∧ (∀ p ∈ ps, B' p = H' p) ∧ Own S B0 as B' l H' := by
  have hB : ∀ p ∈ ps, B p = none := fun p h => w.frB (hp p h).1
  have sb : Same B (fun b => if b ∈ ps then H' b else B b) := fun b o h => by
    show (if b ∈ ps then H' b else B b) = some o
    rw [if_neg (fun z => by rw [hB b z] at h; cases h)]
    exact h
  refine ⟨fun b => if b ∈ ps then H' b else B b, sb, fun p h => if_pos h, ⟨fun a u h => s _ _ (w.c.cell a u h), w.c.nd, fun b u h => ?_, fun a u h => ?_⟩, fun b u hb h => s _ _ (w.kept b u hb h), w.own, w.grow.trans sb, fun b h k => ?_, fun a h e => w.there a h (same_none s e)⟩
  · have h2 : (if b ∈ ps then H' b else B b) = some u := h
    split at h2
    · exact h2
    · exact s _ _ (w.c.imm _ _ h2)
  · show (if a ∈ ps then H' a else B a) = none
    rw [if_neg (fun z => w.notin (hp a z).1 h)]
    exact w.c.dis a u h
  · by_cases hb : b ∈ ps
    · exact (w.frS (hp b hb).1).1
    · have k2 : (if b ∈ ps then H' b else B b) ≠ none := k
      rw [if_neg hb] at k2
      exact w.new b h k2
theorem br_or {c d : Bool} {Q : VK} {H : Hp} {B : Prop} (hB : Q (.bl d) H → B) (q : Q (.bl (c || d)) H) : Br c (Q (.bl true) H) B := by
  cases c with
  | true => exact br_T q
  | false => exact br_F (hB q)
theorem rd_dget2P {a : Addr} {kvs : List (Key × V)} {n : Int} {z : V} {H : Hp} {Q : VK} (P : V → Hp → Prop) (h : H a = some (.dK kvs)) (p : P ((valV kvs (.inl n)).getD z) H) (k : ∀ v H', P v H' → Q v H') : mDGet2 (.ref a) (.int n) z H Q := rd_dget2 h (k _ _ p)
theorem Own.perm {S B0 B H : Hp} {as : List Addr} {l l' : List (Addr × HO)} (w : Own S B0 as B l H) (h : l'.Perm l) : Own S B0 as B l' H := w.sub (fun _ hc => h.mem_iff.mp hc) ((h.map _).nodup_iff.mpr w.c.nd)
/-! ### [(..) for target in xs]: new tuples -/
@[irreducible] def mLcTG (K : PySem.W.Frag) (tl : TE) (g : TG) (te : TE) (vs : List Nat) : TE := fun σ H Q => tl σ H fun x H1 => ∃ (a : Addr) (xs : List V) (f : Nat → List V), x = .ref a ∧ SqL K H1 a xs ∧ xs.length ≤ 1000 ∧
  (∀ i y, xs[i]? = some y → ∀ H', Same H1 H' → g y (wipe σ vs) H' fun σ2 H2 => wipe σ2 vs = wipe σ vs ∧ te σ2 H2 fun v H3 => Same H' H3 ∧ ∃ p, v = .ref p ∧ H3 p = some (.tup (f i))) ∧ NewTs xs.length f H1 Q
theorem rd_lcTG {K : PySem.W.Frag} {tl : TE} {g : TG} {te : TE} {vs : List Nat} {σ : L2.St} {H : Hp} {Q : VK} (h : tl σ H fun x H1 => ∃ (a : Addr) (xs : List V) (f : Nat → List V), x = .ref a ∧ SqL K H1 a xs ∧ xs.length ≤ 1000 ∧
  (∀ i y, xs[i]? = some y → ∀ H', Same H1 H' → g y (wipe σ vs) H' fun σ2 H2 => wipe σ2 vs = wipe σ vs ∧ te σ2 H2 fun v H3 => Same H' H3 ∧ ∃ p, v = .ref p ∧ H3 p = some (.tup (f i))) ∧ NewTs xs.length f H1 Q) : mLcTG K tl g te vs σ H Q := by
  unfold mLcTG
  exact h
theorem lcTG_of {K : PySem.W.Frag} {tl : TE} {g : TG} {te : TE} {vs : List Nat} {σ : L2.St} {H : Hp} {Q : VK} (q : mLcTG K tl g te vs σ H Q) : tLc (iList K (cTE tl)) (cTG g) tYes (cTE te) vs σ H Q := by
  unfold mLcTG at q
  refine ⟨_, q, fun x H1 r => ?_⟩
  obtain ⟨a, xs, f, rfl, hx, hn, he, hq⟩ := r
  refine ⟨a, rfl, ⟨xs, hx⟩, fun D hD => ?_⟩
  refine lc_list (xs := xs) (fun i H' => TsW H1 D f i H') ⟨same_upd hD, [], upd_same, rfl, fun k p h => by cases h⟩ (fun i H' _ w => w.1.seq hx) (fun i y H' hi w => ⟨_, he i y hi H' w.1, fun σ2 H2 r => ⟨r.1, _, r.2, fun v H3 r2 => ?_⟩⟩) fun H' w => ?_
  · obtain ⟨s, p, rfl, hp⟩ := r2
    obtain ⟨acc, h1, h2, h3⟩ := w.next hD s hp
    have hl : i < xs.length := (List.getElem?_eq_some_iff.mp hi).1
    exact ⟨acc, h1, szl (by omega), h3⟩
  · obtain ⟨sm, ps, hd, hl, ht⟩ := w
    exact hq D H' ps hD sm hd hl ht
theorem pe_lcTG {X : Cx} {tg elt it : Expr} {scope : Scope} {own : List (Str × Nat)} {g : TG} {te tl : TE} {pos : Pos} (vs : List Nat) (hc : X.calm = true) (hN : X.N.Nodup) (ha : PE X it tl) (ok : BlkOk X.N X.env.scope scope own)
    (hgt : ∀ (s : Shared) (H : Hp) (C : Addr) (cl : List (Str × Addr)) (fp : List Addr), PG (X.blk s H scope (compEnvC scope cl C X.env) fp) tg g)
    (he : ∀ (s : Shared) (H : Hp) (C : Addr) (cl : List (Str × Addr)) (fp : List Addr), PE (X.blk s H scope (compEnvC scope cl C X.env) fp) elt te) (hvs : own.map (·.2) = vs := by rfl) (hs2 : ∀ y, foldedSetIterable it X.env y = pure y := by intro _; rfl) :
    PE X (.ListComp elt [⟨tg, it, [], 0⟩] scope pos) (mLcTG X.K tl g te vs) :=
  pe_weak (pe_lc hc hN (pi_list (pe_c ha)) ok (fun s H C cl fp => pg_c (hgt s H C cl fp)) (fun _ _ _ _ _ => pts_nil) (fun s H C cl fp => pe_c (he s H C cl fp)) hs2) fun _ _ _ q => by
    rw [hvs]
    exact lcTG_of q
/-! ### x or y as a value, y a name -/
@[irreducible] def OrB (x : V) (σ : L2.St) (j : Nat) (H : Hp) (Q : VK) : Prop := ∃ c d, x = .bl c ∧ σ[j]? = some (some (.bl d)) ∧ Q (.bl (c || d)) H
def mOrB (ta : TE) (j : Nat) : TE := fun σ H Q => ta σ H fun x H1 => OrB x σ j H1 Q
theorem pe_orB {X : Cx} {a b : Expr} {ta : TE} {j : Nat} {pos : Pos} (ha : PE X a ta) (hb : PE X b (fun σ H Q => ∃ v, σ[j]? = some (some v) ∧ Q v H)) : PE X (.BoolOp .Or [a, b] pos) (mOrB ta j) :=
  pe_weak (pe_orM (pe_c ha) (pe_one hb)) fun σ H Q q => ⟨_, q, fun x H1 r => by
    unfold OrB at r
    obtain ⟨c, d, e, hd, r⟩ := r
    cases c with
    | true => exact ⟨true, e, br_T r⟩
    | false => exact ⟨false, e, br_F ⟨.bl d, hd, r⟩⟩⟩
theorem rd_orB {c d : Bool} {σ : L2.St} {j : Nat} {H : Hp} {Q : VK} (hd : σ[j]? = some (some (.bl d))) (q : Q (.bl (c || d)) H) : OrB (.bl c) σ j H Q := by
  unfold OrB
  exact ⟨c, d, rfl, hd, q⟩
/-- a and b as a test, told as one truth value -/
@[irreducible] def AndP (c : Bool) (u : TT) (σ : L2.St) (H : Hp) (Q : Bool → Hp → Prop) : Prop := ∃ d : Bool, (c = true → u σ H fun d' H2 => d' = d ∧ H2 = H) ∧ Q (c && d) H
def mAndP (t u : TT) : TT := fun σ H Q => t σ H fun c H1 => AndP c u σ H1 Q
theorem pw_andP {X : Cx} {a b : Expr} {tA tB : TT} {pos : Pos} (ha : PT X a tA) (hb : PT X b tB) : PW X (.BoolOp .And [a, b] pos) (mAndP tA tB) :=
  pw_weak (pw_andM (pt_c ha) (pw_and1 (pt_c hb))) fun σ H Q q => ⟨_, q, fun c H1 r => by
    unfold AndP at r
    obtain ⟨d, h1, h2⟩ := r
    cases c with
    | true => exact br_T ⟨_, h1 rfl, fun d' H2 z => by
        obtain ⟨rfl, rfl⟩ := z
        exact h2⟩
    | false => exact br_F h2⟩
theorem rd_andP {c : Bool} {u : TT} {σ : L2.St} {H : Hp} {Q : Bool → Hp → Prop} (d : Bool) (h : c = true → u σ H fun d' H2 => d' = d ∧ H2 = H) (q : Q (c && d) H) : AndP c u σ H Q := by
  unfold AndP
  exact ⟨d, h, q⟩
end My
namespace My
open PySem L2
/-! ### a comprehension told by what holds between its turns -/
theorem im_rng3 {ta : TA} : IMono (iRng3 ta) (iRng3 (cTA ta)) := fun σ H R R' h q => ⟨_, q, fun v H' r => by
  obtain ⟨i, j, c, n, e, h1, r⟩ := r
  exact ⟨i, j, c, n, e, h1, h _ _ r⟩⟩
/-- acc: what the new list holds so far; the turn may change the heap, the new list aside -/
def LcWT (D : Addr) (acc : List V) (P : List V → Hp → Prop) (y : V) (H4 : Hp) : Prop := H4 D = some (.lst acc) ∧ P (acc ++ [y]) (upd H4 D (.lst (acc ++ [y])))
def LcWS (D : Addr) (acc : List V) (P : List V → Hp → Prop) (H4 : Hp) : Prop := H4 D = some (.lst acc) ∧ P acc H4
@[irreducible] def LcWP (J : It) (g : TG) (tt : TT) (te : TE) (vs : List Nat) (σ : L2.St) (Q : VK) (H1 : Hp) : Prop := ∃ (n : Nat) (G : Hp → Prop) (Y : Nat → Hp → V → Hp → Prop), Walk J n G Y ∧ n ≤ 100000 ∧ ∀ D, H1 D = none → ∃ Pv : Nat → List V → Hp → Prop, Pv 0 [] (upd H1 D (.lst [])) ∧
  (∀ i acc H', i ≤ n → acc.length ≤ i → H' D = some (.lst acc) → Pv i acc H' → G H') ∧
  (∀ i acc x H' H'', i < n → acc.length ≤ i → H' D = some (.lst acc) → Pv i acc H' → Y i H' x H'' → g x (wipe σ vs) H'' fun σ2 H2 => wipe σ2 vs = wipe σ vs ∧ tt σ2 H2 fun b H3 => Br b (te σ2 H3 fun y H4 => LcWT D acc (Pv (i + 1)) y H4) (LcWS D acc (Pv (i + 1)) H3)) ∧
  ∀ acc H', acc.length ≤ n → H' D = some (.lst acc) → Pv n acc H' → Q (.ref D) H'
@[irreducible] def mLcW (wi : TI) (g : TG) (tt : TT) (te : TE) (vs : List Nat) : TE := fun σ H Q => wi σ H fun J H1 => LcWP J g tt te vs σ Q H1
theorem lcW_of {g : TG} {tt : TT} {te : TE} {wi wi' : TI} {vs : List Nat} {σ : L2.St} {H : Hp} {Q : VK} (hw : IMono wi' wi) (q : mLcW wi' g tt te vs σ H Q) : tLc wi (cTG g) (cTT tt) (cTE te) vs σ H Q := by
  unfold mLcW at q
  refine hw _ _ _ _ (fun J H1 r => ?_) q
  unfold LcWP at r
  obtain ⟨n, G, Y, w, hn, r⟩ := r
  intro D hD
  obtain ⟨Pv, h0, hG, ht, hq⟩ := r D hD
  refine lc_it w (fun i H' => ∃ acc : List V, acc.length ≤ i ∧ H' D = some (.lst acc) ∧ Pv i acc H') ⟨[], Nat.le_refl _, upd_same, h0⟩ (fun i H' hi p => ?_) (fun i x H' H'' hi p y => ?_) fun H' p => ?_
  · obtain ⟨acc, h1, h2, h3⟩ := p
    exact hG i acc H' hi h1 h2 h3
  · obtain ⟨acc, h1, h2, h3⟩ := p
    refine ⟨_, ht i acc x H' H'' hi h1 h2 h3 y, fun σ2 H2 r => ⟨r.1, _, r.2, fun b H3 r => ?_⟩⟩
    cases b with
    | true =>
      refine iteT ⟨_, (r.un : if true = true then _ else _), fun y2 H4 z => ⟨acc, z.1, szl (by omega), acc ++ [y2], ?_, upd_same, z.2⟩⟩
      rw [List.length_append, List.length_singleton]
      omega
    | false => exact iteF (by
        have z : LcWS D acc (Pv (i + 1)) H3 := (r.un : if false = true then _ else _)
        exact ⟨acc, by omega, z.1, z.2⟩)
  · obtain ⟨acc, h1, h2, h3⟩ := p
    exact hq acc H' h1 h2 h3
section
variable {X : Cx} {e tg : Expr} {ifs : List Expr} {g : TG} {tt : TT} {te : TE}
theorem pe_lcW {iter elt : Expr} {scope : Scope} {own : List (Str × Nat)} {pos : Pos} {wi wi' : TI} (vs : List Nat) (hw : IMono wi' wi) (hc : X.calm = true) (hN : X.N.Nodup) (hi : PI X tg iter wi) (ok : BlkOk X.N X.env.scope scope own)
    (hg : ∀ (s : Shared) (H : Hp) (C : Addr) (cl : List (Str × Addr)) (fp : List Addr), PG (X.blk s H scope (compEnvC scope cl C X.env) fp) tg g) (ht : ∀ (s : Shared) (H : Hp) (C : Addr) (cl : List (Str × Addr)) (fp : List Addr), PTs (X.blk s H scope (compEnvC scope cl C X.env) fp) ifs tt)
    (he : ∀ (s : Shared) (H : Hp) (C : Addr) (cl : List (Str × Addr)) (fp : List Addr), PE (X.blk s H scope (compEnvC scope cl C X.env) fp) elt te) (hvs : own.map (·.2) = vs := by rfl) (hs : ∀ x, foldedSetIterable iter X.env x = pure x := by intro _; rfl) :
    PE X (.ListComp elt [⟨tg, iter, ifs, 0⟩] scope pos) (mLcW wi' g tt te vs) :=
  pe_weak (pe_lc hc hN hi ok (fun s H C cl fp => pg_c (hg s H C cl fp)) (fun s H C cl fp => pts_c (ht s H C cl fp)) (fun s H C cl fp => pe_c (he s H C cl fp)) hs) fun _ _ _ q => by
    rw [hvs]
    exact lcW_of hw q
theorem ps_setLcW {i : Nat} {y : Str} {py : Pos} {iter elt : Expr} {scope : Scope} {own : List (Str × Nat)} {pos spos : Pos} {wi wi' : TI} (vs : List Nat) (hw : IMono wi' wi) (hc : X.calm = true) (hN : X.N.Nodup) (hy : X.N[i]? = some y) (hyl : X.env.scope.names.lookup y = some .local)
    (hsw : swapsWith (.ListComp elt [⟨tg, iter, ifs, 0⟩] scope pos) (some (.Name y py)) spos.line X.env = pure true) (hi : PI X tg iter wi) (ok : BlkOk X.N X.env.scope scope own)
    (hg : ∀ (s : Shared) (H : Hp) (C : Addr) (cl : List (Str × Addr)) (fp : List Addr), PG (X.blk s H scope (compEnvC scope cl C X.env) fp) tg g) (ht : ∀ (s : Shared) (H : Hp) (C : Addr) (cl : List (Str × Addr)) (fp : List Addr), PTs (X.blk s H scope (compEnvC scope cl C X.env) fp) ifs tt)
    (he : ∀ (s : Shared) (H : Hp) (C : Addr) (cl : List (Str × Addr)) (fp : List Addr), PE (X.blk s H scope (compEnvC scope cl C X.env) fp) elt te) (hvs : own.map (·.2) = vs := by rfl) (hs : ∀ x, foldedSetIterable iter X.env x = pure x := by intro _; rfl) :
    PS X (.Assign [.Name y py] (.ListComp elt [⟨tg, iter, ifs, 0⟩] scope pos) spos) (tAsg (mLcW wi' g tt te vs) (gName i)) :=
  ps_weak (ps_setLc hc hN hy hyl hsw hi ok (fun s H C cl fp => pg_c (hg s H C cl fp)) (fun s H C cl fp => pts_c (ht s H C cl fp)) (fun s H C cl fp => pe_c (he s H C cl fp)) hs) fun _ _ _ q => by
    rw [hvs]
    exact lcW_of hw q
end
/-! ### its walks: a list, a range -/
theorem rd_lcW {wi : TI} {g : TG} {tt : TT} {te : TE} {vs : List Nat} {σ : L2.St} {H : Hp} {Q : VK} (h : wi σ H fun J H1 => LcWP J g tt te vs σ Q H1) : mLcW wi g tt te vs σ H Q := by
  unfold mLcW
  exact h
section
variable {K : PySem.W.Frag} {g : TG} {tt : TT} {te : TE} {vs : List Nat} {σ : L2.St} {H1 : Hp} {Q : VK}
theorem wl_list {a : Addr} (xs : List V) (hn : xs.length ≤ 100000) (r : ∀ D, H1 D = none → ∃ Pv : Nat → List V → Hp → Prop, Pv 0 [] (upd H1 D (.lst [])) ∧
    (∀ i acc H', i ≤ xs.length → acc.length ≤ i → H' D = some (.lst acc) → Pv i acc H' → SqL K H' a xs) ∧
    (∀ i acc x H', xs[i]? = some x → acc.length ≤ i → H' D = some (.lst acc) → Pv i acc H' → g x (wipe σ vs) H' fun σ2 H2 => wipe σ2 vs = wipe σ vs ∧ tt σ2 H2 fun b H3 => Br b (te σ2 H3 fun y H4 => LcWT D acc (Pv (i + 1)) y H4) (LcWS D acc (Pv (i + 1)) H3)) ∧
    ∀ acc H', acc.length ≤ xs.length → H' D = some (.lst acc) → Pv xs.length acc H' → Q (.ref D) H') :
    LcWP (Itl K a) g tt te vs σ Q H1 := by
  unfold LcWP
  refine ⟨xs.length, _, _, walk_list (K := K) (a := a) (xs := xs), hn, fun D hD => ?_⟩
  obtain ⟨Pv, h0, hG, ht, hq⟩ := r D hD
  refine ⟨Pv, h0, hG, fun i acc x H' H'' hi h1 h2 h3 y => ?_, hq⟩
  obtain ⟨rfl, hx2⟩ := y
  exact ht i acc x _ hx2 h1 h2 h3
/-- for x in range(lo, ..), n turns -/
theorem wl_rng {lo : Int} {n : Nat} (hn : n ≤ 100000) (r : ∀ D, H1 D = none → ∃ Pv : Nat → List V → Hp → Prop, Pv 0 [] (upd H1 D (.lst [])) ∧
    (∀ (i : Nat) acc H', i < n → acc.length ≤ i → H' D = some (.lst acc) → Pv i acc H' → g (.int (lo + (i : Nat))) (wipe σ vs) H' fun σ2 H2 => wipe σ2 vs = wipe σ vs ∧ tt σ2 H2 fun b H3 => Br b (te σ2 H3 fun y H4 => LcWT D acc (Pv (i + 1)) y H4) (LcWS D acc (Pv (i + 1)) H3)) ∧
    ∀ acc H', acc.length ≤ n → H' D = some (.lst acc) → Pv n acc H' → Q (.ref D) H') :
    LcWP (Itr lo n) g tt te vs σ Q H1 := by
  unfold LcWP
  refine ⟨n, _, _, walk_range (lo := lo) (n := n), hn, fun D hD => ?_⟩
  obtain ⟨Pv, h0, ht, hq⟩ := r D hD
  refine ⟨Pv, h0, fun _ _ _ _ _ _ _ => trivial, fun i acc x H' H'' hi h1 h2 h3 y => ?_, hq⟩
  obtain ⟨rfl, rfl⟩ := y
  exact ht i acc _ hi h1 h2 h3
end
/-! ### lists of lists of whole numbers -/
inductive LLs (H : Hp) : List Addr → List (List Int) → Prop
  | nil : LLs H [] []
  | cons {p : Addr} {ps : List Addr} {x : List Int} {r : List (List Int)} (h : H p = some (.lst (x.map V.int))) (t : LLs H ps r) : LLs H (p :: ps) (x :: r)
section
variable {H H' : Hp} {ps : List Addr} {xss : List (List Int)} {p : Addr} {x : List Int}
theorem LLs.mono (h : LLs H ps xss) (s : Same H H') : LLs H' ps xss := by
  induction h with
  | nil => exact .nil
  | cons h _ ih => exact .cons (s _ _ h) ih
/-- where only the addresses told stay as they were -/
theorem LLs.stay (h : LLs H ps xss) (s : ∀ p ∈ ps, H' p = H p) : LLs H' ps xss := by
  induction h with
  | nil => exact .nil
  | cons h _ ih => exact .cons ((s _ List.mem_cons_self).trans h) (ih fun p hp => s p (List.mem_cons_of_mem _ hp))
theorem LLs.snoc (h : LLs H ps xss) (e : H p = some (.lst (x.map V.int))) : LLs H (ps ++ [p]) (xss ++ [x]) := by
  induction h with
  | nil => exact .cons e .nil
  | cons h _ ih => exact .cons h ih
theorem LLs.len (h : LLs H ps xss) : ps.length = xss.length := by
  induction h with
  | nil => rfl
  | cons _ _ ih => rw [List.length_cons, List.length_cons, ih]
theorem LLs.at (h : LLs H ps xss) {i : Nat} (hp : ps[i]? = some p) : ∃ x, xss[i]? = some x ∧ H p = some (.lst (x.map V.int)) := by
  induction h generalizing i with
  | nil => cases hp
  | cons h _ ih =>
    cases i with
    | zero => exact ⟨_, rfl, (Option.some.inj hp) ▸ h⟩
    | succ i => exact ih hp
theorem LLs.mem (h : LLs H ps xss) (hp : p ∈ ps) : ∃ x ∈ xss, H p = some (.lst (x.map V.int)) := by
  obtain ⟨i, hi⟩ := List.getElem?_of_mem hp
  obtain ⟨x, h1, h2⟩ := h.at hi
  exact ⟨x, List.mem_of_getElem? h1, h2⟩
theorem LLs.take (h : LLs H ps xss) (n : Nat) : LLs H (ps.take n) (xss.take n) := by
  induction h generalizing n with
  | nil => rw [List.take_nil, List.take_nil]; exact .nil
  | cons h _ ih =>
    cases n with
    | zero => exact .nil
    | succ n => exact .cons h (ih n)
theorem LLs.drop (h : LLs H ps xss) (n : Nat) : LLs H (ps.drop n) (xss.drop n) := by
  induction h generalizing n with
  | nil => rw [List.drop_nil, List.drop_nil]; exact .nil
  | cons h t ih =>
    cases n with
    | zero => exact .cons h t
    | succ n => exact ih n
theorem LLs.app {qs : List Addr} {yss : List (List Int)} (h : LLs H ps xss) (k : LLs H qs yss) : LLs H (ps ++ qs) (xss ++ yss) := by
  induction h with
  | nil => exact k
  | cons h _ ih => exact .cons h ih
theorem LLs.dps {K : PySem.W.Frag} (h : LLs H ps xss) : DpAll K H (ps.map V.ref) (xss.map fun l => PyData.list (l.map PyData.int)) := by
  induction h with
  | nil => exact .nil
  | cons h _ ih => exact .cons (dp_ints (sq_of h)) ih
theorem dp_lls {K : PySem.W.Frag} {a : Addr} (ha : SqL K H a (ps.map V.ref)) (h : LLs H ps xss) : Dp K H (.ref a) (.list (xss.map fun l => PyData.list (l.map PyData.int))) := .lst ha h.dps
end
def llD (xss : List (List Int)) : PyData := .list (xss.map fun l => PyData.list (l.map PyData.int))
theorem sh_lls {n : Nat} (xss : List (List Int)) : Sh (n + 2) (llD xss) := sh_lst (sh_map (fun l => sh_lst (sh_ints l)) xss)
theorem eqvLL : ∀ xss yss : List (List Int), PyData.eqvAll (xss.map fun l => PyData.list (l.map PyData.int)) (yss.map fun l => PyData.list (l.map PyData.int)) = decide (xss = yss)
  | [], [] => rfl
  | [], _ :: _ => rfl
  | _ :: _, [] => rfl
  | x :: xs, y :: ys => by
    show ((PyData.eqv (.list (x.map PyData.int)) (.list (y.map PyData.int))) && PyData.eqvAll (xs.map fun l => PyData.list (l.map PyData.int)) (ys.map fun l => PyData.list (l.map PyData.int))) = _
    rw [eqvLL xs ys]
    have e : PyData.eqv (.list (x.map PyData.int)) (.list (y.map PyData.int)) = decide (x = y) := eqvAll_ints x y
    rw [e]
    by_cases h1 : x = y
    · by_cases h2 : xs = ys
      · rw [decide_eq_true h1, decide_eq_true h2, h1, h2]
        exact (decide_eq_true rfl).symm
      · rw [decide_eq_false h2, Bool.and_false]
        exact (decide_eq_false fun z => h2 (List.cons.inj z).2).symm
    · rw [decide_eq_false h1, Bool.false_and]
      exact (decide_eq_false fun z => h1 (List.cons.inj z).1).symm
theorem eqv_llD (xss yss : List (List Int)) : PyData.eqv (llD xss) (llD yss) = decide (xss = yss) := eqvLL xss yss
section
variable {K : PySem.W.Frag} {H : Hp} {Q : VK} {a b : Addr} {ps qs : List Addr} {xss yss : List (List Int)}
theorem rd_eqLL (h1 : SqL K H a (ps.map V.ref)) (l1 : LLs H ps xss) (h2 : SqL K H b (qs.map V.ref)) (l2 : LLs H qs yss) (h : Q (.bl (decide (xss = yss))) H) : mEqD K (.ref a) (.ref b) H Q :=
  rd_eqA (n := 2) (m := 2) (llD xss) (llD yss) (dp_lls h1 l1) (dp_lls h2 l2) (sh_lls _) (sh_lls _) (by rw [eqv_llD]; exact h)
theorem rd_neLL (h1 : SqL K H a (ps.map V.ref)) (l1 : LLs H ps xss) (h2 : SqL K H b (qs.map V.ref)) (l2 : LLs H qs yss) (h : Q (.bl (!decide (xss = yss))) H) : mNeD K (.ref a) (.ref b) H Q :=
  rd_neA (n := 2) (m := 2) (llD xss) (llD yss) (dp_lls h1 l1) (dp_lls h2 l2) (sh_lls _) (sh_lls _) (by rw [eqv_llD]; exact h)
end
/-! ### [list(x) for x in xs], each a copy of its own -/
/-- the new list at D, the copies at qs -/
structure Cpy (H1 : Hp) (D : Addr) (qs : List Addr) (xss : List (List Int)) (H' : Hp) : Prop where
  sm : Same H1 H'
  at' : H' D = some (.lst (qs.map V.ref))
  ls : LLs H' qs xss
  fr : ∀ q ∈ qs, H1 q = none ∧ q ≠ D
  nd : qs.Nodup
theorem Cpy.next {H1 H' H'' : Hp} {D p : Addr} {qs : List Addr} {xss : List (List Int)} {x : List Int} (w : Cpy H1 D qs xss H') (hD : H1 D = none) (np : H' p = none) (s : Same H' H'') (e : H'' p = some (.lst (x.map V.int))) :
    Cpy H1 D (qs ++ [p]) (xss ++ [x]) (upd H'' D (.lst (qs.map V.ref ++ [.ref p]))) := by
  have hpD : p ≠ D := fun z => by
    rw [z, w.at'] at np
    cases np
  have hin : ∀ q ∈ qs, q ≠ p := fun q hq z => by
    obtain ⟨y, _, hy⟩ := w.ls.mem hq
    rw [z, np] at hy
    cases hy
  refine ⟨same_mut (w.sm.trans s) hD, ?_, ?_, fun q hq => ?_, ?_⟩
  · rw [upd_same, List.map_append]
    rfl
  · refine LLs.snoc ((w.ls.mono s).stay fun q hq => upd_ne (w.fr q hq).2) ?_
    rw [upd_ne hpD]
    exact e
  · rcases List.mem_append.mp hq with h | h
    · exact w.fr q h
    · rw [List.mem_singleton.mp h]
      exact ⟨same_none w.sm np, hpD⟩
  · refine List.nodup_append.mpr ⟨w.nd, List.nodup_cons.mpr ⟨fun h => (nomatch h), List.nodup_nil⟩, fun q hq r hr => ?_⟩
    rw [List.mem_singleton.mp hr]
    exact hin q hq
def cpOf (te : TE) (σ : L2.St) (H : Hp) (x : List Int) : Prop := ∀ (H' : Hp) (R : VK), Same H H' → NewO (.lst (x.map V.int)) H' R → te σ H' R
theorem wl_copy {K : PySem.W.Frag} {j : Nat} {te : TE} {σ : L2.St} {H1 : Hp} {Q : VK} {a : Addr} (xs : List V) (xss : List (List Int)) (hx : SqL K H1 a xs) (hl : xs.length = xss.length) (hn : xs.length ≤ 100000)
    (ht : ∀ (i : Nat) (y : V) (x : List Int), xs[i]? = some y → xss[i]? = some x → cpOf te ((wipe σ [j]).set j (some y)) H1 x) (hq : ∀ D qs H', H1 D = none → Cpy H1 D qs xss H' → Q (.ref D) H') :
    LcWP (Itl K a) (gName j) tYes te [j] σ Q H1 := by
  refine wl_list xs hn fun D hD => ⟨fun i acc H' => ∃ qs, acc = qs.map V.ref ∧ Cpy H1 D qs (xss.take i) H', ⟨[], rfl, same_upd hD, upd_same, .nil, fun q hq => (nomatch hq), List.nodup_nil⟩, fun i acc H' _ _ _ p => ?_, fun i acc y H' hi ha h2 p => ?_, fun acc H' ha h2 p => ?_⟩
  · obtain ⟨qs, rfl, p⟩ := p
    exact p.sm.seq hx
  · obtain ⟨qs, rfl, p⟩ := p
    have hi2 : i < xss.length := by
      have := (List.getElem?_eq_some_iff.mp hi).1
      omega
    have hi3 : xss[i]? = some xss[i] := List.getElem?_eq_getElem hi2
    show _ ∧ _
    refine ⟨wipe_set rfl, ?_⟩
    show Br true _ _
    refine br_T (ht i y _ hi hi3 H' _ p.sm fun q H'' nq s eq => ?_)
    refine ⟨s _ _ h2, qs ++ [q], by rw [List.map_append]; rfl, ?_⟩
    rw [take_snoc hi3]
    exact p.next hD nq s eq
  · obtain ⟨qs, rfl, p⟩ := p
    rw [hl, List.take_length] at p
    exact hq D qs H' hD p
/-! ### xs[lo:hi] = ys, the bounds left out or whole numbers -/
section
open PySem.Spec PyProof.Rows
theorem spl_arr (u v : List Value) (a c : Nat) : u.toArray.extract 0 a ++ v.toArray ++ u.toArray.extract c u.toArray.size = (u.take a ++ v ++ u.drop c).toArray := by
  apply Array.toList_inj.mp
  simp [List.take_of_length_le]
theorem setSl_at {prog : Program} {w : World} {A : Around} {E : Value → Shared → Prop} {s : Shared} {l b g : Addr} {us vs : Array Value} {n n2 : Nat} {v1 v2 : Value} {lo hi : Option Int} {Q : Unit → Shared → Prop}
    (hus : s.heap.get? l = some { cls := .type "list", data := .seq us n }) (hvs : s.heap.get? b = some { cls := .type "list", data := .seq vs n2 }) (hlb : l ≠ b)
    (hg : s.heap.IsSliceOf g v1 v2 .none) (p1 : IsPart v1 lo) (p2 : IsPart v2 hi) (hz : us.size + vs.size ≤ sizeLine)
    (k : Q () { s with heap := s.heap.update l (Obj.mapSeq fun xs => xs.extract 0 (PySem.W.kms_lo lo us.size) ++ vs ++ xs.extract (max (PySem.W.kms_lo lo us.size) (PySem.W.kms_hi hi us.size)) xs.size) }) :
    wpAny (model prog w) A (setItem (.ref l) (.ref g) (.ref b)) Q E s := by
  have tl : s.heap.IsList l us := PySem.IsL.isList hus
  have tb : s.heap.IsList b vs := PySem.IsL.isList hvs
  obtain ⟨og, hog, hgc, hgd⟩ := id hg
  have tg : s.TypeIs (.ref g) "slice" := ⟨og, hog, hgc⟩
  have hne : Builtin.List.listSameRef (.ref l) (.ref b) = false := by
    unfold Builtin.List.listSameRef
    exact beq_eq_false_iff_ne.mpr hlb
  have mx : ∀ a c : Nat, (max (a : Int) (c : Int)).toNat = max a c := fun a c => by omega
  generalize ha : PySem.W.kms_lo lo us.size = a at k
  generalize hc : PySem.W.kms_hi hi us.size = c at k
  have hb : sliceBounds lo hi none us.size = ((a : Int), (c : Int), 1) := by
    rw [← ha, ← hc]
    exact PySem.W.kms_bounds lo hi us.size
  have ham : a ≤ us.size := by
    rw [← ha]
    unfold PySem.W.kms_lo
    cases lo with
    | none => exact Nat.zero_le _
    | some x =>
      show (if x < 0 then us.size - (-x).toNat else min x.toNat us.size) ≤ us.size
      split <;> omega
  have hz2 : ((fun xs : Array Value => xs.extract 0 a ++ vs ++ xs.extract (max a c) xs.size) us).size ≤ sizeLine + 1 := by
    show (us.extract 0 a ++ vs ++ us.extract (max a c) us.size).size ≤ _
    rw [Array.size_append, Array.size_append, Array.size_extract, Array.size_extract]
    omega
  unfold setItem
  (try with_reducible refine wpAny_holding ?_)
  refine wpAny_bind (wpAny_sequenceKey tl.typeIs (by decide) ?_)
  refine wpAny_bind (wpAny_callSpecial?_slot (name := Str.ofString "__setitem__") tl.typeIs slot_list_setitem (wpAny_call_entry slot_list_setitem tl.typeIs entry_list_setitem ?_ (args_list_setitem _ _ _)))
  show wpAny _ _ (Builtin.List.listSubscript? (.ref g) >>= _) _ _ s
  refine wpAny_bind ?_
  unfold Builtin.List.listSubscript?
  refine wpAny_bind (wpAny_specialOf tg slice_no_index ?_)
  rw [if_pos (show (none : Option Value).isNone = true from rfl)]
  refine wpAny_pure ?_
  show wpAny _ _ (typeOf (.ref g) >>= _) _ _ s
  refine wpAny_bind (wpAny_typeOf tg ?_)
  rw [if_neg (by decide), listSliceParts_eq]
  refine wpAny_bind (wpAny_bind (wpAny_field hog hgd (x := .none) rfl (wpAny_bind (wpAny_listPart .none ?_))))
  rw [if_neg (show ¬ (rawPart none == rawInt 0) = true from Bool.false_ne_true)]
  refine wpAny_bind (wpAny_field hog hgd (x := v1) rfl (wpAny_bind (wpAny_listPart p1 ?_)))
  refine wpAny_bind (wpAny_field hog hgd (x := v2) rfl (wpAny_bind (wpAny_listPart p2 (wpAny_pure ?_))))
  refine PySem.W.KFB.if_not hne ?_
  refine wpAny_bind (m := Builtin.List.listAllItems (.ref b) "must assign iterable to extended slice") ?_
  unfold Builtin.List.listAllItems
  refine wpAny_bind (wpAny_typeOf tb.typeIs ?_)
  refine PySem.W.KFB.if_so (by decide) ?_
  unfold Builtin.List.listItems
  refine wpAny_bind (wpAny_seqItems hvs rfl (wpAny_pure ?_))
  refine wpAny_bind (wpAny_bind (wpAny_seqItems hus rfl (wpAny_pure ?_)))
  refine wpAny_bind (wpAny_of_eq ((sliceIndices_raw lo hi none us.size (by simp)).trans (congrArg (pure : Int × Int × Int → Sem (Int × Int × Int)) hb)) ?_)
  show wpAny _ _ (if ((1 : Int) == 1) = true then _ else _) _ _ s
  rw [if_pos (by decide)]
  refine wpAny_bind (wpAny_rule ?_)
  refine PySem.W.KFB.if_not (notLongL hz) ?_
  try refine wpAny_bind (wpAny_pure ?_)
  show wpAny _ _ (updateSeq l (fun xs => xs.extract 0 ((a : Int)).toNat ++ vs ++ xs.extract (max (a : Int) (c : Int)).toNat xs.size) >>= _) _ _ s
  rw [mx, Int.toNat_natCast]
  refine wpAny_bind (wpAny_updateSeq (hz := Nat.le_trans (Nat.le_add_right _ _) hz) (_hz' := hz2) hus rfl ?_)
  refine wpAny_bind (wpAny_letGo ?_)
  first
    | exact wpAny_pure ⟨.none, rfl, wpAny_pure k⟩
    | exact wpAny_bind (wpAny_pure (wpAny_pure ⟨.none, rfl, wpAny_pure k⟩))
/-- what becomes of a list -/
def splV (xs ys : List V) (lo hi : Option Int) : List V := xs.take (PySem.W.kms_lo lo xs.length) ++ ys ++ xs.drop (max (PySem.W.kms_lo lo xs.length) (PySem.W.kms_hi hi xs.length))
@[irreducible] def mSetSl (o : V) (lo hi : Option Int) (v : V) (H : Hp) (Q : Hp → Prop) : Prop := ∃ l b xs ys, o = .ref l ∧ v = .ref b ∧ H l = some (.lst xs) ∧ H b = some (.lst ys) ∧ l ≠ b ∧ xs.length + ys.length ≤ 1000000 ∧ Q (upd H l (.lst (splV xs ys lo hi)))
theorem rd_setSl {l b : Addr} {xs ys : List V} {lo hi : Option Int} {H : Hp} {Q : Hp → Prop} (h1 : H l = some (.lst xs)) (h2 : H b = some (.lst ys)) (h3 : l ≠ b) (hz : xs.length + ys.length ≤ 1000000) (q : Q (upd H l (.lst (splV xs ys lo hi)))) : mSetSl (.ref l) lo hi (.ref b) H Q := by
  unfold mSetSl
  exact ⟨l, b, xs, ys, rfl, rfl, h1, h2, h3, hz, q⟩
def gSl (to : TE) (tl th : TO) : TG := fun v σ H Q => to σ H fun o H1 => tl σ H1 fun lo H2 => th σ H2 fun hi H3 => mSetSl o lo hi v H3 fun H4 => Q σ H4
theorem pg_sl {X : Cx} {o : Expr} {lo hi : Option Expr} {to : TE} {tl th : TO} {pos p2 : Pos} (ho : PE X o to) (hl : PO X lo tl) (hu : PO X hi th)
    (ha : ∀ v, assign (.Subscript o (.Slice lo hi none p2) pos) X.env v = (do
      let a ← holding [v] (eval o X.env)
      let b ← holding [v, a] (eval (.Slice lo hi none p2) X.env)
      standAt pos
      holding [v, a, b] (setItem a b v)
      release [b, v, a] []) := by intro _; rfl) : PG X (.Subscript o (.Slice lo hi none p2) pos) (gSl to tl th) := by
  refine ⟨fun pins s σ H v u Q I r h => ?_⟩
  rw [ha]
  refine wpAny_bind (wpAny_holding (thn (ho.run pins s σ H _ I h) fun ov s1 ⟨x, H1, I1, r1, q1⟩ => ?_))
  refine wpAny_bind (wpAny_holding (wpAny_Slice (thn (hl.run pins s1 σ H1 _ I1 q1) fun vl s2 ⟨lo', H2, I2, pl, q2⟩ => thn (hu.run pins s2 σ H2 _ I2 q2) fun vu s3 ⟨hi', H3, I3, pu, q3⟩ => ?_)))
  rw [evalPart_none]
  refine wpAny_pure ?_
  unfold mSetSl at q3
  obtain ⟨l, b, xs, ys, rfl, rfl, h1, h2, h3, hz, q⟩ := q3
  have I4 : Inv X pins σ H3 { s3 with heap := s3.heap.push { cls := .type "slice", data := .fields #[vl, vu, .none] } } := I3.kept (t' := s3.toks) fun b ob q => Heap.get?_push_of_some _ q
  cases r1
  cases r
  obtain ⟨z, its, n, rv, hl1, e1⟩ := I4.lstM h1
  obtain ⟨z2, its2, n2, rv2, hl2, e2⟩ := I4.lstM h2
  have hn1 : its.toArray.size = xs.length := by rw [List.size_toArray]; exact rv.length.symm
  have hn2 : its2.toArray.size = ys.length := by rw [List.size_toArray]; exact rv2.length.symm
  refine wpAny_bind (wpAny_standAt (wpAny_bind (wpAny_holding ?_)))
  refine setSl_at e1 e2 h3 (Heap.IsSliceOf.new ..) pl pu (by rw [hn1, hn2]; exact sz hz) ?_
  rw [hn1]
  refine wpAny_release ⟨σ, _, I4.lset (its' := its.take (PySem.W.kms_lo lo' xs.length) ++ its2 ++ its.drop (max (PySem.W.kms_lo lo' xs.length) (PySem.W.kms_hi hi' xs.length))) (t' := s3.toks) h1 e1 ?_ (Vals.append (Vals.append (rv.take _) rv2) (rv.drop _)) ?_, q⟩
  · exact spl_arr its its2 _ _
  · have e3 := List.length_take_le (PySem.W.kms_lo lo' xs.length) xs
    refine sz ?_
    rw [List.length_append, List.length_append, List.length_take, List.length_drop]
    omega
end
theorem splV_all (xs ys : List V) : splV xs ys none none = ys := by
  show xs.take 0 ++ ys ++ xs.drop (max 0 xs.length) = ys
  rw [Nat.zero_max, List.drop_length, List.take_zero, List.append_nil, List.nil_append]
theorem splV_to (xs ys : List V) {k : Int} (h : 0 ≤ k) : splV xs ys none (some k) = ys ++ xs.drop k.toNat := by
  have e : PySem.W.kms_hi (some k) xs.length = min k.toNat xs.length := by
    show (if k < 0 then _ else _) = _
    rw [if_neg (by omega)]
  show xs.take 0 ++ ys ++ xs.drop (max 0 (PySem.W.kms_hi (some k) xs.length)) = _
  rw [e, Nat.zero_max, List.take_zero, List.nil_append]
  by_cases h2 : k.toNat ≤ xs.length
  · rw [Nat.min_eq_left h2]
  · rw [Nat.min_eq_right (by omega), List.drop_length, List.drop_of_length_le (by omega)]
/-- objects that came with the last step join what stays -/
theorem Own.adopt2 {S B0 B H : Hp} {as : List Addr} {l : List (Addr × HO)} (w : Own S B0 as B l H) (ps : List Addr) (hp : ∀ p ∈ ps, S p = none ∧ H p ≠ none ∧ p ∉ l.map Prod.fst) : ∃ B', Same B B' ∧ (∀ p ∈ ps, B' p = H p) ∧ Own S B0 as B' l H := by
  have sb : Same B (fun b => if b ∈ ps then H b else B b) := fun b o h => by
    show (if b ∈ ps then H b else B b) = some o
    split
    · exact w.c.imm _ _ h
    · exact h
  refine ⟨fun b => if b ∈ ps then H b else B b, sb, fun p h => if_pos h, ⟨w.c.cell, w.c.nd, fun b u h => ?_, fun a u h => ?_⟩, w.kept, w.own, w.grow.trans sb, fun b h k => ?_, w.there⟩
  · have h2 : (if b ∈ ps then H b else B b) = some u := h
    split at h2
    · exact h2
    · exact w.c.imm _ _ h2
  · show (if a ∈ ps then H a else B a) = none
    rw [if_neg (fun z => (hp a z).2.2 (mem_fst h))]
    exact w.c.dis a u h
  · by_cases hb : b ∈ ps
    · exact (hp b hb).1
    · have k2 : (if b ∈ ps then H b else B b) ≠ none := k
      rw [if_neg hb] at k2
      exact w.new b h k2
/-- a list of copies: it is a cell, the copies stay -/
theorem Own.cpy {S B0 B H H' : Hp} {as : List Addr} {l : List (Addr × HO)} {D : Addr} {qs : List Addr} {xss : List (List Int)} (w : Own S B0 as B l H) (hD : H D = none) (c : Cpy H D qs xss H') :
    ∃ B', Same B B' ∧ LLs B' qs xss ∧ Own S B0 as B' ((D, .lst (qs.map V.ref)) :: l) H' := by
  have w1 := w.add hD c.sm c.at'
  obtain ⟨B', s, e, w2⟩ := w1.adopt2 qs fun p hp => by
    refine ⟨(w.frS (c.fr p hp).1).1, ?_, fun h => ?_⟩
    · obtain ⟨x, _, hx⟩ := c.ls.mem hp
      rw [hx]
      exact fun z => (nomatch z)
    · rcases List.mem_cons.mp h with h | h
      · exact (c.fr p hp).2 h
      · obtain ⟨o, h⟩ := fst_mem h
        exact w.notin (c.fr p hp).1 h
  exact ⟨B', s, c.ls.stay e, w2⟩
/-- a list of copies, all of it stays -/
theorem Own.cpyR {S B0 B H H' : Hp} {as : List Addr} {l : List (Addr × HO)} {D : Addr} {qs : List Addr} {xss : List (List Int)} (w : Own S B0 as B l H) (hD : H D = none) (c : Cpy H D qs xss H') :
    ∃ B', Same B B' ∧ LLs B' qs xss ∧ B' D = some (.lst (qs.map V.ref)) ∧ Own S B0 as B' l H' := by
  obtain ⟨B', s, h, w2⟩ := w.cpy hD c
  obtain ⟨B2, s2, e2, w3⟩ := w2.ice (w.frS hD).1
  exact ⟨B2, s.trans s2, h.mono s2, e2, w3⟩
/-- [e for x in xs], each element a value, the heap grown at most -/
theorem wl_vals {K : PySem.W.Frag} {j : Nat} {te : TE} {σ : L2.St} {H1 : Hp} {Q : VK} {a : Addr} (xs : List V) (f : Nat → V) (hx : SqL K H1 a xs) (hn : xs.length ≤ 100000)
    (ht : ∀ (i : Nat) (y : V), xs[i]? = some y → ∀ (H' : Hp) (R : VK), Same H1 H' → (∀ H'', Same H' H'' → R (f i) H'') → te ((wipe σ [j]).set j (some y)) H' R) (hq : NewO (.lst ((List.range xs.length).map f)) H1 Q) :
    LcWP (Itl K a) (gName j) tYes te [j] σ Q H1 := by
  refine wl_list xs hn fun D hD => ⟨fun i acc H' => acc = (List.range i).map f ∧ Same H1 H', ⟨rfl, same_upd hD⟩, fun i acc H' _ _ _ p => p.2.seq hx, fun i acc y H' hi ha h2 p => ?_, fun acc H' ha h2 p => ?_⟩
  · obtain ⟨rfl, p⟩ := p
    show _ ∧ _
    refine ⟨wipe_set rfl, ?_⟩
    show Br true _ _
    refine br_T (ht i y hi H' _ p fun H'' s => ⟨s _ _ h2, ?_, same_mut (p.trans s) hD⟩)
    rw [List.range_succ, List.map_append]
    rfl
  · obtain ⟨rfl, p⟩ := p
    exact hq D H' hD p h2
section
variable {X : Cx} {K : PySem.W.Frag}
theorem call_listK (h : X.K = K) : CallR X (.type "list") (mListOf K) := h ▸ call_listM
theorem sl_listK (h : X.K = K) : SlR X (mSlL K) := h ▸ sl_listM
theorem call_tupOfK (h : X.K = K) : CallR X (.type "tuple") (mTupOf K) := h ▸ call_tupOfM
end
theorem snocI (ns : List Int) (n : Int) : ns.map V.int ++ [V.int n] = (ns ++ [n]).map V.int := by
  rw [List.map_append]
  rfl
theorem snocR (ns : List Addr) (n : Addr) : ns.map V.ref ++ [V.ref n] = (ns ++ [n]).map V.ref := by
  rw [List.map_append]
  rfl
/-- a name is set: the frame as it stands then -/
theorem frG {i : Nat} {v : V} {σ σ' : L2.St} {H : Hp} {D : L2.St → Hp → Prop} (e : σ.set i (some v) = σ') (h : D σ' H) : gName i v σ H D := by
  subst e
  exact h
/-! ### lists of new tuples -/
inductive TLs (H : Hp) : List Addr → List (List V) → Prop
  | nil : TLs H [] []
  | cons {p : Addr} {ps : List Addr} {x : List V} {r : List (List V)} (h : H p = some (.tup x)) (t : TLs H ps r) : TLs H (p :: ps) (x :: r)
section
variable {H H' : Hp} {ps : List Addr} {xs : List (List V)} {p : Addr} {x : List V}
theorem TLs.mono (h : TLs H ps xs) (s : Same H H') : TLs H' ps xs := by
  induction h with
  | nil => exact .nil
  | cons h _ ih => exact .cons (s _ _ h) ih
theorem TLs.stay (h : TLs H ps xs) (s : ∀ p ∈ ps, H' p = H p) : TLs H' ps xs := by
  induction h with
  | nil => exact .nil
  | cons h _ ih => exact .cons ((s _ List.mem_cons_self).trans h) (ih fun p hp => s p (List.mem_cons_of_mem _ hp))
theorem TLs.snoc (h : TLs H ps xs) (e : H p = some (.tup x)) : TLs H (ps ++ [p]) (xs ++ [x]) := by
  induction h with
  | nil => exact .cons e .nil
  | cons h _ ih => exact .cons h ih
theorem TLs.len (h : TLs H ps xs) : ps.length = xs.length := by
  induction h with
  | nil => rfl
  | cons _ _ ih => rw [List.length_cons, List.length_cons, ih]
theorem TLs.mem (h : TLs H ps xs) (hp : p ∈ ps) : ∃ x ∈ xs, H p = some (.tup x) := by
  induction h with
  | nil => cases hp
  | cons h _ ih =>
    rcases List.mem_cons.mp hp with e | z
    · rw [e]
      exact ⟨_, .head _, h⟩
    · obtain ⟨y, h1, h2⟩ := ih z
      exact ⟨y, .tail _ h1, h2⟩
theorem TLs.at (h : TLs H ps xs) {i : Nat} (hp : ps[i]? = some p) : ∃ x, xs[i]? = some x ∧ H p = some (.tup x) := by
  induction h generalizing i with
  | nil => cases hp
  | cons h _ ih =>
    cases i with
    | zero => exact ⟨_, rfl, (Option.some.inj hp) ▸ h⟩
    | succ i => exact ih hp
theorem TLs.app {qs : List Addr} {ys : List (List V)} (h : TLs H ps xs) (k : TLs H qs ys) : TLs H (ps ++ qs) (xs ++ ys) := by
  induction h with
  | nil => exact k
  | cons h _ ih => exact .cons h ih
end
structure NT (H1 : Hp) (D : Addr) (ps : List Addr) (xs : List (List V)) (H' : Hp) : Prop where
  sm : Same H1 H'
  at' : H' D = some (.lst (ps.map V.ref))
  ls : TLs H' ps xs
  fr : ∀ p ∈ ps, H1 p = none
theorem NT.start {H1 : Hp} {D : Addr} (hD : H1 D = none) : NT H1 D [] [] (upd H1 D (.lst [])) := ⟨same_upd hD, upd_same, .nil, fun p hp => (nomatch hp)⟩
theorem NT.next {H1 H' H2 : Hp} {D t : Addr} {ps : List Addr} {xs : List (List V)} {x : List V} (w : NT H1 D ps xs H') (hD : H1 D = none) (nt : H' t = none) (s : Same H' H2) (e : H2 t = some (.tup x)) :
    NT H1 D (ps ++ [t]) (xs ++ [x]) (upd H2 D (.lst (ps.map V.ref ++ [.ref t]))) := by
  have hD2 := s _ _ w.at'
  have htD : ∀ {q : Addr} {y : List V}, H2 q = some (.tup y) → q ≠ D := fun {q y} h z => by
    rw [z, hD2] at h
    cases h
  refine ⟨same_mut (w.sm.trans s) hD, ?_, ?_, fun y hy => ?_⟩
  · rw [upd_same, List.map_append]
    rfl
  · refine TLs.snoc ((w.ls.mono s).stay fun y hy => upd_ne ?_) ?_
    · obtain ⟨z, _, h⟩ := w.ls.mem hy
      exact htD (s _ _ h)
    · rw [upd_ne (htD e)]
      exact e
  · rcases List.mem_append.mp hy with h | h
    · exact w.fr y h
    · rw [List.mem_singleton.mp h]
      exact same_none w.sm nt
theorem NT.back {H0 H1 H' : Hp} {D : Addr} {ps : List Addr} {xs : List (List V)} (w : NT H1 D ps xs H') (s : Same H0 H1) : NT H0 D ps xs H' := ⟨s.trans w.sm, w.at', w.ls, fun p hp => same_none s (w.fr p hp)⟩
/-- all of a list of new tuples stays -/
theorem Own.nt {S B0 B H H' : Hp} {as : List Addr} {l : List (Addr × HO)} {D : Addr} {ps : List Addr} {xs : List (List V)} (w : Own S B0 as B l H) (hD : H D = none) (c : NT H D ps xs H') :
    ∃ B', Same B B' ∧ B' D = some (.lst (ps.map V.ref)) ∧ TLs B' ps xs ∧ Own S B0 as B' l H' := by
  obtain ⟨B', s, e, w2⟩ := (w.more c.sm).adopt2 (D :: ps) fun p hp => by
    have hn : H p = none ∧ H' p ≠ none := by
      rcases List.mem_cons.mp hp with h | h
      · rw [h]
        exact ⟨hD, by rw [c.at']; exact fun z => (nomatch z)⟩
      · obtain ⟨x, _, hx⟩ := c.ls.mem h
        exact ⟨c.fr p h, by rw [hx]; exact fun z => (nomatch z)⟩
    refine ⟨(w.frS hn.1).1, hn.2, fun h => ?_⟩
    obtain ⟨o, h⟩ := fst_mem h
    exact w.notin hn.1 h
  exact ⟨B', s, (e D (.head _)).trans c.at', c.ls.stay fun p hp => e p (.tail _ hp), w2⟩
/-- [(..) for x in xs]: the i-th tuple is f i -/
theorem wl_tups {K : PySem.W.Frag} {j : Nat} {te : TE} {σ : L2.St} {H1 : Hp} {Q : VK} {a : Addr} (xs : List V) (f : Nat → List V) (hx : SqL K H1 a xs) (hn : xs.length ≤ 100000)
    (ht : ∀ (i : Nat) (y : V), xs[i]? = some y → ∀ (H' : Hp) (R : VK), Same H1 H' → NewO (.tup (f i)) H' R → te ((wipe σ [j]).set j (some y)) H' R) (hq : ∀ D ps H', H1 D = none → NT H1 D ps ((List.range xs.length).map f) H' → Q (.ref D) H') :
    LcWP (Itl K a) (gName j) tYes te [j] σ Q H1 := by
  refine wl_list xs hn fun D hD => ⟨fun i acc H' => ∃ ps, acc = ps.map V.ref ∧ NT H1 D ps ((List.range i).map f) H', ⟨[], rfl, NT.start hD⟩, fun i acc H' _ _ _ p => ?_, fun i acc y H' hi ha h2 p => ?_, fun acc H' ha h2 p => ?_⟩
  · obtain ⟨ps, rfl, p⟩ := p
    exact p.sm.seq hx
  · obtain ⟨ps, rfl, p⟩ := p
    show _ ∧ _
    refine ⟨wipe_set rfl, ?_⟩
    show Br true _ _
    refine br_T (ht i y hi H' _ p.sm fun t H'' nt s e => ⟨s _ _ h2, ps ++ [t], by rw [List.map_append]; rfl, ?_⟩)
    rw [List.range_succ, List.map_append]
    exact p.next hD nt s e
  · obtain ⟨ps, rfl, p⟩ := p
    exact hq D ps H' hD p
/-! ### a comprehension over a dict, which is locked meanwhile -/
@[irreducible] def mLcD (i : Nat) (g : TG) (tt : TT) (te : TE) (vs : List Nat) : TE := tLockE (mLcW (iKeys fun σ H Q => ∃ v, σ[i]? = some (some v) ∧ Q v H) g tt te vs)
theorem pe_lcD {X : Cx} {tg it elt : Expr} {ifs : List Expr} {scope : Scope} {own : List (Str × Nat)} {g : TG} {tt : TT} {te : TE} {i : Nat} {pos : Pos} (vs : List Nat) (hc : X.calm = true) (hN : X.N.Nodup) (ha : PE X it (fun σ H Q => ∃ v, σ[i]? = some (some v) ∧ Q v H)) (ok : BlkOk X.N X.env.scope scope own)
    (hg : ∀ (s : Shared) (H : Hp) (C : Addr) (cl : List (Str × Addr)) (fp : List Addr), PG (X.blk s H scope (compEnvC scope cl C X.env) fp) tg g) (ht : ∀ (s : Shared) (H : Hp) (C : Addr) (cl : List (Str × Addr)) (fp : List Addr), PTs (X.blk s H scope (compEnvC scope cl C X.env) fp) ifs tt)
    (he : ∀ (s : Shared) (H : Hp) (C : Addr) (cl : List (Str × Addr)) (fp : List Addr), PE (X.blk s H scope (compEnvC scope cl C X.env) fp) elt te) (hvs : own.map (·.2) = vs := by rfl) (hs : ∀ x, foldedSetIterable it X.env x = pure x := by intro _; rfl) :
    PE X (.ListComp elt [⟨tg, it, ifs, 0⟩] scope pos) (mLcD i g tt te vs) :=
  pe_weak (pe_lock (pe_lcW vs im_keys hc hN (pi_keys (pe_c ha)) ok hg ht he hvs hs)) fun σ H Q q => by
    unfold mLcD at q
    exact q
/-- what the turns see: the dict to be read, all else that was there -/
structure DSee (d : Addr) (kvs : List (Key × V)) (H H' : Hp) : Prop where
  rd : Rd H' d (.dK kvs)
  but : ∀ b o, b ≠ d → H b = some o → H' b = some o
theorem DSee.more {d : Addr} {kvs : List (Key × V)} {H H' H2 : Hp} (w : DSee d kvs H H') (s : Same H' H2) : DSee d kvs H H2 := ⟨by
  rcases w.rd with h | ⟨o, h⟩
  · exact .inl (s _ _ h)
  · exact .inr ⟨o, s _ _ h⟩, fun b o hb h => s _ _ (w.but b o hb h)⟩
theorem rd_lcDT {i j : Nat} {tt : TT} {te : TE} {σ : L2.St} {H : Hp} {Q : VK} (d : Addr) (kvs : List (Key × V)) (ns : List Int) (keep : Int → Bool) (f : Int → List V) (h1 : σ[i]? = some (some (.ref d))) (h2 : H d = some (.dK kvs)) (h3 : kvs.map Prod.fst = ns.map Sum.inl) (h4 : ns.length ≤ 100000)
    (ht : ∀ n, n ∈ ns → ∀ (H' : Hp) (R : Bool → Hp → Prop), DSee d kvs H H' → (∀ H'', Same H' H'' → R (keep n) H'') → tt ((wipe σ [j]).set j (some (.int n))) H' R)
    (he : ∀ n, n ∈ ns → keep n = true → ∀ (H' : Hp) (R : VK), DSee d kvs H H' → NewO (.tup (f n)) H' R → te ((wipe σ [j]).set j (some (.int n))) H' R)
    (hq : ∀ D ps H', H D = none → NT H D ps ((ns.filter keep).map f) H' → Q (.ref D) H') : mLcD i (gName j) tt te [j] σ H Q := by
  unfold mLcD
  have hkl : kvs.length = ns.length := by
    have e := congrArg List.length h3
    rw [List.length_map, List.length_map] at e
    exact e
  refine ⟨d, .dK kvs, h2, trivial, fun od => ?_⟩
  unfold mLcW
  refine ⟨.ref d, h1, d, od, rfl, .inl ⟨kvs, upd_same, ?_⟩⟩
  have nd : ∀ {p : Addr}, (upd H d (.frz od (.dK kvs))) p = none → p ≠ d := fun z e => by
    rw [e, upd_same] at z
    cases z
  have see : ∀ {H'}, Same (upd H d (.frz od (.dK kvs))) H' → DSee d kvs H H' := fun s => ⟨.inr ⟨od, s _ _ upd_same⟩, fun b o hb h => s _ _ (by rw [upd_ne hb]; exact h)⟩
  unfold LcWP
  refine ⟨kvs.length, _, _, walk_keys (d := d) (o := od) (kvs := kvs), by omega, fun D hD => ⟨fun k acc H' => ∃ ps, acc = ps.map V.ref ∧ NT (upd H d (.frz od (.dK kvs))) D ps (((ns.take k).filter keep).map f) H', ⟨[], rfl, NT.start hD⟩, fun k acc H' _ _ _ p => ?_, fun k acc y H' H'' hk ha h5 p w => ?_, fun acc H' ha h5 p => ?_⟩⟩
  · obtain ⟨ps, rfl, p⟩ := p
    exact p.sm _ _ upd_same
  · obtain ⟨ps, rfl, p⟩ := p
    obtain ⟨rfl, ky, vy, hkv, rfl⟩ := w
    have hk2 : k < ns.length := by omega
    have hn : ns[k]? = some ns[k] := List.getElem?_eq_getElem hk2
    have ek : ky = Sum.inl ns[k] := by
      have z : (kvs.map Prod.fst)[k]? = (ns.map (Sum.inl (β := Str)))[k]? := by rw [h3]
      rw [List.getElem?_map, List.getElem?_map, hkv, hn] at z
      exact Option.some.inj z
    subst ek
    have hin : ns[k] ∈ ns := List.getElem_mem hk2
    show _ ∧ _
    refine ⟨wipe_set rfl, ?_⟩
    refine ht _ hin _ _ (see p.sm) fun H2 s2 => ?_
    have st : ns.take (k + 1) = ns.take k ++ [ns[k]] := take_snoc hn
    cases hb : keep ns[k] with
    | true =>
      refine br_T (he _ hin hb H2 _ (see (p.sm.trans s2)) fun t H3 nt s3 e3 => ⟨s3 _ _ (s2 _ _ h5), ps ++ [t], by rw [List.map_append]; rfl, ?_⟩)
      have p2 : NT (upd H d (.frz od (.dK kvs))) D ps (((ns.take k).filter keep).map f) H2 := ⟨p.sm.trans s2, s2 _ _ p.at', p.ls.mono s2, p.fr⟩
      have e4 : ((ns.take (k + 1)).filter keep).map f = ((ns.take k).filter keep).map f ++ [f ns[k]] := by
        rw [st, List.filter_append, List.map_append, List.filter_cons, if_pos hb]
        rfl
      rw [e4]
      exact p2.next hD nt s3 e3
    | false =>
      refine br_F ⟨s2 _ _ h5, ps, rfl, ?_⟩
      have e4 : ((ns.take (k + 1)).filter keep).map f = ((ns.take k).filter keep).map f := by
        rw [st, List.filter_append, List.filter_cons, if_neg (by rw [hb]; decide), List.filter_nil, List.append_nil]
      rw [e4]
      exact ⟨p.sm.trans s2, s2 _ _ p.at', p.ls.mono s2, p.fr⟩
  · obtain ⟨ps, rfl, p⟩ := p
    rw [hkl, List.take_length] at p
    have hDd : D ≠ d := nd hD
    have hps : ∀ q ∈ ps, q ≠ d := fun q hq => nd (p.fr q hq)
    refine ⟨p.sm _ _ upd_same, hq D ps _ (by rw [upd_ne hDd] at hD; exact hD) ⟨fun b o hb => ?_, ?_, ?_, fun q hq => ?_⟩⟩
    · by_cases hbd : b = d
      · subst hbd
        rw [upd_same]
        rw [h2] at hb
        exact hb
      · rw [upd_ne hbd]
        exact p.sm _ _ (by rw [upd_ne hbd]; exact hb)
    · rw [upd_ne hDd]
      exact p.at'
    · exact p.ls.stay fun q hq => upd_ne (hps q hq)
    · have := p.fr q hq
      rw [upd_ne (hps q hq)] at this
      exact this
/-- dict(ps), ps a list of pairs -/
@[irreducible] def mDictP (K : PySem.W.Frag) : List V → Hp → VK → Prop := fun xs H Q => ∃ (a : Addr) (ps : List Addr) (kvs : List (Key × V)), xs = [.ref a] ∧ SqL K H a (ps.map V.ref) ∧ Paired (fun p kv => SqT K H p [kV kv.1, kv.2]) ps kvs ∧ NewO (.dK (mergeK [] kvs)) H Q
theorem call_dictPM {X : Cx} (hc : X.calm = true) : CallR X (.type "dict") (mDictP X.K) := fun pins s σ H xs us Q I r q => call_dictP hc pins s σ H xs us Q I r (by
  unfold mDictP at q
  obtain ⟨a, ps, kvs, e, h1, h2, h3⟩ := q
  exact ⟨a, ps, kvs, e, h1, h2, h3.go⟩)
theorem paired_tls {K : PySem.W.Frag} {H : Hp} : ∀ {ps : List Addr} {kvs : List (Key × V)}, TLs H ps (kvs.map fun kv => [kV kv.1, kv.2]) → Paired (fun p kv => SqT K H p [kV kv.1, kv.2]) ps kvs
  | _, [], h => by
    cases h
    exact .nil
  | _, kv :: r, h => by
    cases h with
    | cons h t => exact .cons (st_of h) (paired_tls t)
theorem putK_app : ∀ {kvs more : List (Key × V)} {k : Key} {v : V}, k ∉ kvs.map Prod.fst → putK kvs k v = kvs ++ [(k, v)] := fun {kvs more k v} h => putK_new _ (by
  induction kvs with
  | nil => rfl
  | cons x r ih =>
    rw [List.map_cons] at h
    rw [valV_neg (fun e => h (e ▸ .head _))]
    exact ih fun z => h (.tail _ z))
theorem mergeK_app : ∀ (kvs more : List (Key × V)), ((kvs ++ more).map Prod.fst).Nodup → mergeK kvs more = kvs ++ more
  | kvs, [], _ => by rw [List.append_nil]; rfl
  | kvs, (k, v) :: r, nd => by
    have h : k ∉ kvs.map Prod.fst := fun z => by
      rw [List.map_append] at nd
      exact (List.nodup_append.mp nd).2.2 k z k (.head _) rfl
    show mergeK (putK kvs k v) r = _
    rw [putK_app (more := []) h]
    have e : kvs ++ (k, v) :: r = (kvs ++ [(k, v)]) ++ r := by rw [List.append_assoc]; rfl
    rw [e] at nd ⊢
    exact mergeK_app _ r nd
theorem rd_dictP {K : PySem.W.Frag} {H : Hp} {Q : VK} {a : Addr} {ps : List Addr} {kvs : List (Key × V)} (h1 : SqL K H a (ps.map V.ref)) (h2 : TLs H ps (kvs.map fun kv => [kV kv.1, kv.2])) (nd : (kvs.map Prod.fst).Nodup) (q : NewO (.dK kvs) H Q) : mDictP K [.ref a] H Q := by
  unfold mDictP
  refine ⟨a, ps, kvs, rfl, h1, paired_tls h2, ?_⟩
  rw [mergeK_app [] kvs nd]
  exact q
/-! ### o.m(e, ..) that may raise, within a try -/
def mMethT (C : Addr) (m : Str) (sp : Sp) (E : L2.St → XK) (ta : TE) (t : TA) : TE := fun σ H Q => ta σ H fun x H1 => mIns C m x H1 (t σ H1 fun vs H2 => sp (x :: vs) H2 Q (E σ))
section
open PySem.Spec PyProof.Rows
variable {X : Cx} {CX : CXT} {k : Nat} {C g : Addr} {fd : FuncData} {ps : List Str} {sp : Sp} {E : L2.St → XK} {m : Str} {e o : Expr} {es : List Expr} {ta : TE} {t : TA} {apos cpos : Pos} {pl : Sem Bool}
theorem pe_methT (ho : PE X o ta) (c : Cls X.K C) (hm : Meth X.K C m g) (F : FnOk X.prog X.w X.K X.mg X.base CX k g fd ps sp) (hr : Room k X.A) (hb : Binds X.K fd ps []) (hx : ∀ σ, PassesAt CX X σ (E σ)) (ha : PA X (e :: es) t)
    (hst : starEach (e :: es) X.env = (false, eval e X.env) :: starEach es X.env := by rfl) (hpl : (backTo cpos (starEach es X.env)).any (·.1) = false := by rfl)
    (ht : eval (.Call (.Attribute o m apos) (e :: es) [] cpos) X.env = (do
      let v ← eval o X.env
      standAt apos.atName
      let (a, b) ← holding [v] (getMethod v m pl)
      callWith cpos a b (backTo cpos (starEach (e :: es) X.env)) (backToKw cpos (keywordEach [] X.env))) := by rfl) : PE X (.Call (.Attribute o m apos) (e :: es) [] cpos) (mMethT C m sp E ta t) := by
  refine ⟨fun pins s σ H Q I z => ?_⟩
  refine PySem.W.methodCall_KW (pl := pl) (thn ((pe_c ho).run pins s σ H _ I ⟨_, z, fun v H' y => y⟩) fun u s1 ⟨v, H1, I1, rv, y⟩ => ?_) ht
  unfold mIns at y
  obtain ⟨a, dx, fs, rfl, ea, l, y⟩ := y
  obtain rfl : u = Value.ref a := rv
  refine getmeth_ok I1 ea c hm l ?_
  refine PySem.W.callWith_K (first := [.ref a]) (h₀ := X.base) I.ok.mod.kin hm.kp (thn (ha.run cpos pins s1 σ H1 _ I1 y) fun us s2 ⟨ws, H2, I2, r, y2⟩ => ⟨I2.kIn, ?_⟩) hst hpl
  exact run_fnS (us := .ref a :: us) (vs := .ref a :: ws) F hr hb (hx σ) I2 (.cons rfl r) y2
end
theorem Own.addR {S B0 B H H' : Hp} {as : List Addr} {l : List (Addr × HO)} {p : Addr} {o : HO} (w : Own S B0 as B l H) (n : H p = none) (s : Same H H') (e : H' p = some o) : Own S B0 as B (l ++ [(p, o)]) H' :=
  (w.add n s e).perm List.perm_append_comm
theorem Own.loose {S B0 B H H2 H3 : Hp} {as : List Addr} {l : List (Addr × HO)} (w : Own S B0 as B l H) (s : Same H H2) (ps : List Addr) (hp : ∀ p ∈ ps, H p = none) (k : ∀ b o, b ∉ ps → H2 b = some o → H3 b = some o) : Own S B0 as B l H3 := by
  have old : ∀ {b o}, H b = some o → H3 b = some o := fun {b o} h => k b o (fun z => by rw [hp b z] at h; cases h) (s _ _ h)
  refine ⟨⟨fun a u h => old (w.c.cell a u h), w.c.nd, fun b u h => old (w.c.imm b u h), w.c.dis⟩, fun b u hb h => old (w.kept b u hb h), w.own, w.grow, w.new, fun a h e => ?_⟩
  have h2 := w.there a h
  cases e2 : H a with
  | none => exact h2 e2
  | some u =>
    rw [old e2] at e
    cases e
theorem Own.dropR {S B0 B H : Hp} {as : List Addr} {l : List (Addr × HO)} {c : Addr × HO} (w : Own S B0 as B (l ++ [c]) H) : Own S B0 as B l H :=
  w.sub (fun _ h => List.mem_append_left _ h) (by
    have nd := w.c.nd
    rw [List.map_append] at nd
    exact (List.nodup_append.mp nd).1)
theorem LLs.nil_of {H : Hp} {xss : List (List Int)} (h : LLs H [] xss) : xss = [] := by
  cases h
  rfl
theorem LLs.nil_of' {H : Hp} {ps : List Addr} (h : LLs H ps []) : ps = [] := by
  cases h
  rfl
theorem LLs.un {H : Hp} {p : Addr} {ps : List Addr} {xss : List (List Int)} (h : LLs H (p :: ps) xss) : ∃ x r, xss = x :: r ∧ H p = some (.lst (x.map V.int)) ∧ LLs H ps r := by
  cases h with
  | cons h t => exact ⟨_, _, rfl, h, t⟩
theorem LLs.un' {H : Hp} {ps : List Addr} {x : List Int} {r : List (List Int)} (h : LLs H ps (x :: r)) : ∃ p ps', ps = p :: ps' ∧ H p = some (.lst (x.map V.int)) ∧ LLs H ps' r := by
  cases h with
  | cons h t => exact ⟨_, _, rfl, h, t⟩
theorem LLs.setAt {H : Hp} {ps : List Addr} {xss : List (List Int)} {p : Addr} {x : List Int} (h : LLs H ps xss) (e : H p = some (.lst (x.map V.int))) (i : Nat) : LLs H (ps.set i p) (xss.set i x) := by
  induction h generalizing i with
  | nil => exact .nil
  | cons h t ih =>
    cases i with
    | zero => exact .cons e t
    | succ i => exact .cons h (ih i)
theorem LLs.erase {H : Hp} {ps : List Addr} {xss : List (List Int)} (h : LLs H ps xss) (i : Nat) : LLs H (ps.eraseIdx i) (xss.eraseIdx i) := by
  induction h generalizing i with
  | nil => exact .nil
  | cons h t ih =>
    cases i with
    | zero => exact t
    | succ i => exact .cons h (ih i)
theorem LLs.get' {H : Hp} {ps : List Addr} {xss : List (List Int)} (h : LLs H ps xss) {i : Int} (h0 : 0 ≤ i) (h1 : i < (ps.length : Int)) : ∃ (p : Addr) (x : List Int), x ∈ xss ∧ ps[i.toNat]? = some p ∧ atI (ps.map V.ref) i = some (.ref p) ∧ H p = some (.lst (x.map V.int)) := by
  have h2 : i.toNat < ps.length := by omega
  have e := List.getElem?_eq_getElem h2
  obtain ⟨x, hm, hx⟩ := h.at e
  refine ⟨_, x, List.mem_of_getElem? hm, e, at_of (j := i.toNat) (by omega) ?_, hx⟩
  rw [List.getElem?_map, e]
  rfl
/-! ### min and max of one list of whole numbers -/
@[irreducible] def mMinL (K : PySem.W.Frag) : List V → Hp → VK → Prop := fun xs H Q => ∃ (a : Addr) (ns : List Int), xs = [.ref a] ∧ SqL K H a (ns.map V.int) ∧ 0 < ns.length ∧ ∀ m, m ∈ ns → (∀ y ∈ ns, m ≤ y) → Q (.int m) H
@[irreducible] def mMaxL (K : PySem.W.Frag) : List V → Hp → VK → Prop := fun xs H Q => ∃ (a : Addr) (ns : List Int), xs = [.ref a] ∧ SqL K H a (ns.map V.int) ∧ 0 < ns.length ∧ ∀ m, m ∈ ns → (∀ y ∈ ns, y ≤ m) → Q (.int m) H
theorem rd_minL {K : PySem.W.Frag} {H : Hp} {Q : VK} {a : Addr} {ns : List Int} (h : SqL K H a (ns.map V.int)) (hn : 0 < ns.length) (q : ∀ m, m ∈ ns → (∀ y ∈ ns, m ≤ y) → Q (.int m) H) : mMinL K [.ref a] H Q := by
  unfold mMinL
  exact ⟨a, ns, rfl, h, hn, q⟩
theorem rd_maxL {K : PySem.W.Frag} {H : Hp} {Q : VK} {a : Addr} {ns : List Int} (h : SqL K H a (ns.map V.int)) (hn : 0 < ns.length) (q : ∀ m, m ∈ ns → (∀ y ∈ ns, y ≤ m) → Q (.int m) H) : mMaxL K [.ref a] H Q := by
  unfold mMaxL
  exact ⟨a, ns, rfl, h, hn, q⟩
theorem call_minLM {X : Cx} (hc : X.calm = true) : CallR X (.builtin "min") (mMinL X.K) := fun pins s σ H xs us Q I r q => cr_min hc pins s σ H xs us Q I r (by
  unfold mMinL at q
  exact q)
theorem call_maxLM {X : Cx} (hc : X.calm = true) : CallR X (.builtin "max") (mMaxL X.K) := fun pins s σ H xs us Q I r q => cr_max hc pins s σ H xs us Q I r (by
  unfold mMaxL at q
  exact q)
/-! ### d.pop(k), k there -/
@[irreducible] def mDPop (x y : V) (H : Hp) (Q : VK) : Prop := ∃ a kvs k v, x = .ref a ∧ y = kV k ∧ H a = some (.dK kvs) ∧ valV kvs k = some v ∧ Q v (upd H a (.dK (dropK kvs k)))
theorem rd_dpop {a : Addr} {kvs : List (Key × V)} {n : Int} {v : V} {H : Hp} {Q : VK} (h : H a = some (.dK kvs)) (e : valV kvs (.inl n) = some v) (q : Q v (upd H a (.dK (dropK kvs (.inl n))))) : mDPop (.ref a) (.int n) H Q := by
  unfold mDPop
  exact ⟨a, kvs, .inl n, v, rfl, rfl, h, e, q⟩
def mDPopE (td ty : TE) : TE := fun σ H Q => td σ H fun x H1 => ∃ a kvs, x = .ref a ∧ H1 a = some (.dK kvs) ∧ ty σ H1 fun y H2 => mDPop x y H2 Q
theorem pe_dpopM {X : Cx} {o e : Expr} {td ty : TE} {apos cpos : Pos} (ho : PE X o td) (he : PE X e ty) (hbase : attributeBase o "pop" X.env (eval o X.env) = eval o X.env := by rfl)
    (hfew : ((backTo cpos (starEach [e] X.env)).all (fun x => !x.1) && (backToKw cpos (keywordEach [] X.env)).all (fun x => x.1.isSome) && decide (([e] : List Expr).length + ([] : List Keyword).length + (if ([] : List Keyword).isEmpty then 0 else 1) < 30)) = true := by rfl)
    (hline : (apos.endLine == cpos.line) = true := by rfl) (htr : backTo cpos (starEach [e] X.env) = [(false, eval e X.env)] := by rfl) : PE X (.Call (.Attribute o "pop" apos) [e] [] cpos) (mDPopE td ty) :=
  pe_weak (pe_dpop1 (pe_c ho) (pe_c he) ⟨hbase, hfew, hline, htr⟩) fun σ H Q q => ⟨_, q, fun x H1 r => by
    obtain ⟨a, kvs, rfl, h, r⟩ := r
    refine ⟨a, rfl, .inl ⟨kvs, .inl h⟩, _, r, fun y H2 r => ?_⟩
    unfold mDPop at r
    obtain ⟨a2, kvs2, k, v, e1, e2, h2, e3, r⟩ := r
    cases e1
    exact ⟨kvs2, k, v, h2, e2, e3, r⟩⟩
/-! ### more walks of a comprehension -/
section
variable {K : PySem.W.Frag} {tt : TT} {te : TE} {σ : L2.St} {H1 : Hp} {Q : VK} {j : Nat}
/-- [new list for x in range(lo, ..)] -/
theorem wl_newR {lo : Int} {n : Nat} (f : Nat → List Int) (hn : n ≤ 100000) (ht : ∀ i : Nat, i < n → ∀ (H' : Hp) (R : VK), Same H1 H' → NewO (.lst ((f i).map V.int)) H' R → te ((wipe σ [j]).set j (some (.int (lo + (i : Nat))))) H' R)
    (hq : ∀ D qs H', H1 D = none → Cpy H1 D qs ((List.range n).map f) H' → Q (.ref D) H') : LcWP (Itr lo n) (gName j) tYes te [j] σ Q H1 := by
  refine wl_rng hn fun D hD => ⟨fun i acc H' => ∃ qs, acc = qs.map V.ref ∧ Cpy H1 D qs ((List.range i).map f) H', ⟨[], rfl, same_upd hD, upd_same, .nil, fun q hq => (nomatch hq), List.nodup_nil⟩, fun i acc H' hi ha h2 p => ?_, fun acc H' ha h2 p => ?_⟩
  · obtain ⟨qs, rfl, p⟩ := p
    show _ ∧ _
    refine ⟨wipe_set rfl, ?_⟩
    show Br true _ _
    refine br_T (ht i hi H' _ p.sm fun q H'' nq s eq => ⟨s _ _ h2, qs ++ [q], by rw [List.map_append]; rfl, ?_⟩)
    rw [List.range_succ, List.map_append]
    exact p.next hD nq s eq
  · obtain ⟨qs, rfl, p⟩ := p
    exact hq D qs H' hD p
/-- [x for x in cs if t], whole numbers -/
theorem wl_filtI {a : Addr} (cs : List Int) (keep : Int → Bool) (hx : SqL K H1 a (cs.map V.int)) (hn : cs.length ≤ 100000) (ht : ∀ n, n ∈ cs → ∀ (H' : Hp) (R : Bool → Hp → Prop), Same H1 H' → (∀ H'', Same H' H'' → R (keep n) H'') → tt ((wipe σ [j]).set j (some (.int n))) H' R)
    (he : ∀ n, n ∈ cs → ∀ (H' : Hp) (R : VK), R (.int n) H' → te ((wipe σ [j]).set j (some (.int n))) H' R) (hq : NewO (.lst ((cs.filter keep).map V.int)) H1 Q) : LcWP (Itl K a) (gName j) tt te [j] σ Q H1 := by
  refine wl_list (cs.map V.int) (by rw [List.length_map]; exact hn) fun D hD => ⟨fun i acc H' => acc = ((cs.take i).filter keep).map V.int ∧ Same H1 H', ⟨rfl, same_upd hD⟩, fun i acc H' _ _ _ p => p.2.seq hx, fun i acc y H' hi ha h2 p => ?_, fun acc H' ha h2 p => ?_⟩
  · obtain ⟨rfl, p⟩ := p
    rw [List.getElem?_map] at hi
    obtain ⟨n, hn2, rfl⟩ := Option.map_eq_some_iff.mp hi
    have hin := List.mem_of_getElem? hn2
    show _ ∧ _
    refine ⟨wipe_set rfl, ht n hin H' _ p fun H2 s2 => ?_⟩
    cases hb : keep n with
    | true =>
      refine br_T (he n hin H2 _ ⟨s2 _ _ h2, ?_, same_mut (p.trans s2) hD⟩)
      rw [take_snoc hn2, List.filter_append, List.map_append, List.filter_cons, if_pos hb]
      rfl
    | false =>
      refine br_F ⟨s2 _ _ h2, ?_, p.trans s2⟩
      rw [take_snoc hn2, List.filter_append, List.filter_cons, if_neg (by rw [hb]; decide), List.filter_nil, List.append_nil]
  · obtain ⟨rfl, p⟩ := p
    rw [List.length_map, List.take_length] at h2
    exact hq D H' hD p h2
end
/-- all numbers below n stand in a list: it is as long -/
theorem below_len : ∀ (n : Nat) (cs : List Int), (∀ m : Nat, m < n → (m : Int) ∈ cs) → n ≤ cs.length
  | 0, _, _ => Nat.zero_le _
  | n + 1, cs, h => by
    have h1 : (n : Int) ∈ cs := h n (Nat.lt_succ_self n)
    have h2 := below_len n (cs.erase (n : Int)) fun m hm => (List.mem_erase_of_ne (by omega)).mpr (h m (by omega))
    have h3 := List.length_erase_of_mem h1
    have h4 : 0 < cs.length := List.length_pos_of_mem h1
    omega
/-! ### an if whose test is told by what it comes to -/
@[irreducible] def mIfC (c : TT) (t u : TS) : TS := fun D σ H => ∃ R : Bool → Hp → Prop, c σ H R ∧ ∀ b H1, R b H1 → Br b (t D σ H1) (u D σ H1)
theorem rd_ifC {c : TT} {t u : TS} {D : Ends} {σ : L2.St} {H : Hp} (R : Bool → Hp → Prop) (h : c σ H R) (k : ∀ b H1, R b H1 → Br b (t D σ H1) (u D σ H1)) : mIfC c t u D σ H := by
  unfold mIfC
  exact ⟨R, h, k⟩
theorem ps_ifC {X : Cx} {c : Expr} {bs us : List Stmt} {pos : Pos} {tt : TT} {t u : TS} (hc : PT X c tt) (ha : PSs X bs t) (hb : PSs X us u) : PS X (.If c bs us pos) (mIfC tt t u) := ps_weak (ps_if (pt_c hc) ha hb) fun D σ H q => by
  unfold mIfC at q
  obtain ⟨R, h, k⟩ := q
  exact ⟨R, h, fun b H1 r => (k b H1 r).un⟩
/-! ### an if whose test is told by what it comes to, and whose ends are joined -/
@[irreducible] def mIfCJ (c : TT) (t u : TS) : TS := fun D σ H => ∃ (R : Bool → Hp → Prop) (P : L2.St → Hp → Prop), c σ H R ∧ (∀ H1, R true H1 → t { D with nx := P } σ H1) ∧ (∀ H1, R false H1 → u { D with nx := P } σ H1) ∧ ∀ σ' H', P σ' H' → D.nx σ' H'
theorem rd_ifCJ {c : TT} {t u : TS} {D : Ends} {σ : L2.St} {H : Hp} (R : Bool → Hp → Prop) (P : L2.St → Hp → Prop) (h : c σ H R) (h1 : ∀ H1, R true H1 → t { D with nx := P } σ H1) (h2 : ∀ H1, R false H1 → u { D with nx := P } σ H1) (k : ∀ σ' H', P σ' H' → D.nx σ' H') : mIfCJ c t u D σ H := by
  unfold mIfCJ
  exact ⟨R, P, h, h1, h2, k⟩
theorem ps_ifCJ {X : Cx} {c : Expr} {bs us : List Stmt} {pos : Pos} {tt : TT} {t u : TS} (hc : PT X c tt) (ha : PSs X bs t) (hb : PSs X us u) : PS X (.If c bs us pos) (mIfCJ tt t u) := ps_weak (ps_if (pt_c hc) (pss_c ha) (pss_c hb)) fun D σ H q => by
  unfold mIfCJ at q
  obtain ⟨R, P, h, h1, h2, k⟩ := q
  refine ⟨R, h, fun b H1 r => ?_⟩
  cases b with
  | true => exact iteT ⟨P, h1 H1 r, k⟩
  | false => exact iteF ⟨P, h2 H1 r, k⟩
end My
namespace My
open PySem L2
/-! ### C(e, ..) that may raise, within a try -/
def tMakeS (C : Addr) (sp : Sp) (E : L2.St → XK) (t : TA) : TE := fun σ H Q => t σ H fun vs H1 => ∀ x dx, H1 x = none → H1 dx = none → dx ≠ x → sp (.ref x :: vs) (upd (upd H1 dx (.own x)) x (.ins C dx [])) (fun v H2 => v = .non ∧ Q (.ref x) H2) (E σ)
section
open PySem.Spec PyProof.Rows
variable {X : Cx} {CX : CXT} {k : Nat} {C f : Addr} {fd : FuncData} {ps : List Str} {sp : Sp} {E : L2.St → XK} {x : Str} {e : Expr} {es : List Expr} {t : TA} {p pos : Pos}
theorem run_makeS {pins : List (Addr × Obj)} {σ : L2.St} {H : Hp} {s : Shared} {Q : VK} {us : List Value} {vs : List V} (M : Mk X.K C f) (F : FnOk X.prog X.w X.K X.mg X.base CX k f fd ps sp) (hr : Room (k + 1) X.A) (hb : Binds X.K fd ps [])
    (hx : PassesAt CX X σ (E σ)) (I : Inv X pins σ H s) (r : Vals vs us)
    (h : ∀ x dx, H x = none → H dx = none → dx ≠ x → sp (.ref x :: vs) (upd (upd H dx (.own x)) x (.ins C dx [])) (fun v H2 => v = .non ∧ Q (.ref x) H2) (E σ)) :
    wpAny (model X.prog X.w) X.A (call (.ref C) us) (EP X pins σ Q) X.xe s := by
  have hq := h (s.heap.objs.size + 1) s.heap.objs.size (I.hok.fresh (Nat.le_succ _)) (I.hok.fresh (Nat.le_refl _)) (Nat.ne_of_lt (Nat.lt_succ_self _))
  have I2 := Inv.made (C := C) I
  have r2 : Vals (V.ref (s.heap.objs.size + 1) :: vs) (Value.ref (s.heap.objs.size + 1) :: us) := .cons rfl r
  have hl : (Value.ref (s.heap.objs.size + 1) :: us ++ []).length = ps.length := by
    have e := r2.length
    rw [F.len _ _ _ _ hq] at e
    rw [List.append_nil]
    exact e.symm
  have b := hb _ (Value.ref (s.heap.objs.size + 1) :: us) I2.kIn hl
  rw [List.append_nil] at b
  refine wpAny_call (make_map (f := f) I.kIn M.makes M.init (beq_iff_eq.mp M.fn) (codeAny_mono (F.run _ X.stack _ _ ⟨Value.ref (s.heap.objs.size + 1) :: us, []⟩ (Value.ref (s.heap.objs.size + 1) :: us) _ _ (E σ) (hr.make C us [])
    (I2.env0.make C us []) b r2 hq) fun r s' hq' => ?_))
  cases r with
  | error e => exact hx pins _ _ e s' I2 hq'
  | ok fl =>
    cases fl with
    | ret u =>
      obtain ⟨v, H', I3, rv, ev, q3⟩ := I2.after hq'
      subst ev
      exact ⟨rv, ⟨V.ref (s.heap.objs.size + 1), H', I3, rfl, q3⟩⟩
    | next => exact False.elim hq'
    | brk => exact False.elim hq'
    | cont => exact False.elim hq'
theorem pe_makeS (M : Mk X.K C f) (F : FnOk X.prog X.w X.K X.mg X.base CX k f fd ps sp) (hr : Room (k + 1) X.A) (hg : Gl X x) (hm : X.mg x = some (.ref C)) (hb : Binds X.K fd ps []) (hx : ∀ σ, PassesAt CX X σ (E σ))
    (ha : PA X (e :: es) t) (hdb : (x == ("__debug__" : Str)) = false := by decide) (he : starEach (e :: es) X.env = (false, eval e X.env) :: starEach es X.env := by rfl) (hpl : (backTo pos (starEach es X.env)).any (·.1) = false := by rfl) :
    PE X (.Call (.Name x p) (e :: es) [] pos) (tMakeS C sp E t) := by
  refine ⟨fun pins s σ H Q I h => ?_⟩
  refine wpAny_Call_Name_kw (ld_glob I hg hm ?_ hdb)
  refine PySem.W.callWith_K (h₀ := X.base) I.ok.mod.kin M.kp (thn (ha.run pos pins s σ H _ I h) fun us s1 ⟨vs, H1, I1, r, q⟩ => ⟨I1.kIn, ?_⟩) he hpl
  exact run_makeS M F hr hb (hx σ) I1 r q
end
/-! ### an expression told by what it comes to -/
@[irreducible] def mSay (te : TE) : TE := cTE te
theorem pe_say {X : Cx} {e : Expr} {te : TE} (h : PE X e te) : PE X e (mSay te) := by
  unfold mSay
  exact pe_c h
theorem rd_say {te : TE} {σ : L2.St} {H : Hp} {Q : VK} (P : VK) (h : te σ H P) (k : ∀ v H', P v H' → Q v H') : mSay te σ H Q := by
  unfold mSay
  exact ⟨P, h, k⟩
/-! ### the places of a list of truths that are true -/
def trues (ws : List Bool) : List Nat := (List.range ws.length).filter fun i => ws.getD i false
abbrev natI (as : List Nat) : List Int := as.map fun i : Nat => (i : Int)
theorem wl_enumB {K : PySem.W.Frag} {i1 i2 : Nat} {tt : TT} {te : TE} {σ : L2.St} {H1 : Hp} {Q : VK} {a : Addr} (ws : List Bool) (hx : SqL K H1 a (ws.map V.bl)) (hn : ws.length ≤ 100000) (h12 : i1 ≠ i2)
    (ht : ∀ (i : Nat) (b : Bool), ws[i]? = some b → ∀ (H' : Hp) (R : Bool → Hp → Prop), Same H1 H' → (∀ H'', Same H' H'' → R b H'') → tt (((wipe σ [i1, i2]).set i1 (some (.int (i : Nat)))).set i2 (some (.bl b))) H' R)
    (he : ∀ (i : Nat) (b : Bool), ws[i]? = some b → ∀ (H' : Hp) (R : VK), R (.int (i : Nat)) H' → te (((wipe σ [i1, i2]).set i1 (some (.int (i : Nat)))).set i2 (some (.bl b))) H' R)
    (hq : NewO (.lst ((natI (trues ws)).map V.int)) H1 Q) : LcWP (Ite K a) (gTup K 2 (gCons (gName i1) (gCons (gName i2) gNil))) tt te [i1, i2] σ Q H1 := by
  unfold LcWP
  refine ⟨(ws.map V.bl).length, _, _, walk_enum (K := K) (a := a) (xs := ws.map V.bl), by rw [List.length_map]; exact hn, fun D hD => ?_⟩
  refine ⟨fun i acc H' => acc = (natI ((List.range i).filter fun k => ws.getD k false)).map V.int ∧ Same H1 H', ⟨rfl, same_upd hD⟩, fun i acc H' _ _ _ p => p.2.seq hx, fun i acc x H' H'' hi ha h2 p y => ?_, fun acc H' ha h2 p => ?_⟩
  · obtain ⟨rfl, p⟩ := p
    obtain ⟨T, u, v, rfl, hT, rfl, e1, e2⟩ := y
    cases e1
    have e2 : (ws.map V.bl)[i]? = some v := e2
    rw [List.getElem?_map] at e2
    obtain ⟨b, hb, rfl⟩ := Option.map_eq_some_iff.mp e2
    have eb : ws.getD i false = b := by
      rw [List.getD_eq_getElem?_getD, hb]
      rfl
    have hDT : D ≠ T := fun e => by
      rw [e, hT] at h2
      cases h2
    refine ⟨T, [.int (i : Nat), .bl b], rfl, st_of upd_same, rfl, .int (i : Nat), [.bl b], rfl, .bl b, [], rfl, rfl, wipe2 h12, ?_⟩
    have s1 : Same H' (upd H' T (.tup [.int (i : Nat), .bl b])) := same_upd hT
    refine ht i b hb _ _ (p.trans s1) fun H2 s2 => ?_
    cases b with
    | true =>
      refine br_T (he i true hb H2 _ ⟨s2 _ _ (s1 _ _ h2), ?_, same_mut ((p.trans s1).trans s2) hD⟩)
      rw [List.range_succ, List.filter_append, List.filter_cons, if_pos eb]
      simp
    | false =>
      refine br_F ⟨s2 _ _ (s1 _ _ h2), ?_, (p.trans s1).trans s2⟩
      rw [List.range_succ, List.filter_append, List.filter_cons, if_neg (by rw [eb]; decide), List.filter_nil, List.append_nil]
  · obtain ⟨rfl, p⟩ := p
    rw [List.length_map] at h2
    exact hq D H' hD p h2
theorem nodup_lt : ∀ (n : Nat) (as : List Nat), as.Nodup → (∀ a ∈ as, a < n) → as.length ≤ n
  | 0, [], _, _ => Nat.le_refl _
  | 0, a :: _, _, h => absurd (h a (.head _)) (Nat.not_lt_zero _)
  | n + 1, as, nd, h => by
    have h2 := nodup_lt n (as.erase n) (nd.erase n) fun a ha => by
      have h3 := (nd.mem_erase_iff).mp ha
      have h4 := h a h3.2
      have h5 := h3.1
      omega
    by_cases hm : n ∈ as
    · rw [List.length_erase_of_mem hm] at h2
      omega
    · rw [List.erase_of_not_mem hm] at h2
      omega
theorem trues_nd (ws : List Bool) : (trues ws).Nodup := List.nodup_range.filter _
theorem trues_lt {ws : List Bool} {i : Nat} (h : i ∈ trues ws) : i < ws.length := List.mem_range.mp (List.mem_filter.mp h).1
theorem trues_at {ws : List Bool} {i : Nat} : i ∈ trues ws ↔ i < ws.length ∧ ws.getD i false = true := by
  unfold trues
  rw [List.mem_filter, List.mem_range]
theorem trues_len (ws : List Bool) : (trues ws).length ≤ ws.length := nodup_lt _ _ (trues_nd ws) fun a h => trues_lt h
theorem range_map_getD {α β : Type} (l : List α) (d : α) (f : α → β) : (List.range l.length).map (fun i => f (l.getD i d)) = l.map f := by
  apply List.ext_getElem?
  intro i
  rw [List.getElem?_map, List.getElem?_map]
  by_cases h : i < l.length
  · rw [List.getElem?_range h, List.getElem?_eq_getElem h]
    show some (f (l.getD i d)) = some (f l[i])
    rw [List.getD_eq_getElem?_getD, List.getElem?_eq_getElem h]
    rfl
  · rw [List.getElem?_eq_none (by rw [List.length_range]; omega), List.getElem?_eq_none (by omega)]
    rfl
theorem at_get {xs : List V} {k : Nat} {v : V} (h : xs[k]? = some v) : atI xs (k : Int) = some v := at_of (j := k) (by omega) h
theorem at_bl {ws : List Bool} {k : Nat} (h : k < ws.length) : atI (ws.map V.bl) (k : Int) = some (V.bl (ws.getD k false)) := by
  refine at_get ?_
  rw [List.getElem?_map, List.getElem?_eq_getElem h, List.getD_eq_getElem?_getD, List.getElem?_eq_getElem h]
  rfl
theorem wl_rngF {j : Nat} {tt : TT} {te : TE} {σ : L2.St} {H1 : Hp} {Q : VK} {n : Nat} (keep : Nat → Bool) (hn : n ≤ 100000) (ht : ∀ i : Nat, i < n → ∀ (H' : Hp) (R : Bool → Hp → Prop), Same H1 H' → (∀ H'', Same H' H'' → R (keep i) H'') → tt ((wipe σ [j]).set j (some (.int (i : Nat)))) H' R)
    (he : ∀ i : Nat, i < n → ∀ (H' : Hp) (R : VK), R (.int (i : Nat)) H' → te ((wipe σ [j]).set j (some (.int (i : Nat)))) H' R) (hq : NewO (.lst ((natI ((List.range n).filter keep)).map V.int)) H1 Q) : LcWP (Itr 0 n) (gName j) tt te [j] σ Q H1 := by
  refine wl_rng hn fun D hD => ⟨fun i acc H' => acc = (natI ((List.range i).filter keep)).map V.int ∧ Same H1 H', ⟨rfl, same_upd hD⟩, fun i acc H' hi ha h2 p => ?_, fun acc H' ha h2 p => ?_⟩
  · obtain ⟨rfl, p⟩ := p
    rw [Int.zero_add]
    show _ ∧ _
    refine ⟨wipe_set rfl, ht i hi H' _ p fun H2 s2 => ?_⟩
    cases hb : keep i with
    | true =>
      refine br_T (he i hi H2 _ ⟨s2 _ _ h2, ?_, same_mut (p.trans s2) hD⟩)
      rw [List.range_succ, List.filter_append, List.filter_cons, if_pos hb]
      simp
    | false =>
      refine br_F ⟨s2 _ _ h2, ?_, p.trans s2⟩
      rw [List.range_succ, List.filter_append, List.filter_cons, if_neg (by rw [hb]; decide), List.filter_nil, List.append_nil]
  · obtain ⟨rfl, p⟩ := p
    exact hq D H' hD p h2
theorem rd_isiNB {K : PySem.W.Frag} {H : Hp} {Q : VK} (h : Q (.bl false) H) : mIsi K [.non, .ty "bool"] H Q := by
  unfold mIsi
  exact ⟨_, _, _, _, false, rfl, ClsV.ty _, TyX.base TyOf.non, by rfl, h⟩
theorem sum_set : ∀ (l : List Int) (i : Nat) (x : Int), i < l.length → (l.set i x).sum = l.sum - l.getD i 0 + x
  | [], i, x, h => absurd h (Nat.not_lt_zero _)
  | a :: l, 0, x, _ => by
    rw [List.set_cons_zero, List.sum_cons, List.sum_cons]
    show x + l.sum = a + l.sum - a + x
    omega
  | a :: l, i + 1, x, h => by
    have h2 := sum_set l i x (Nat.lt_of_succ_lt_succ h)
    rw [List.set_cons_succ, List.sum_cons, List.sum_cons, h2]
    show a + (l.sum - l.getD i 0 + x) = a + l.sum - l.getD i 0 + x
    omega
theorem rng1_ok {n : Nat} {A : Prop} (h : n ≤ 100000) (hA : A) : -(2 ^ 62) ≤ (n : Int) ∧ (n : Int) < 2 ^ 62 ∧ A := by
  have big : (2 : Int) ^ 62 = 4611686018427387904 := by decide
  rw [big]
  exact ⟨by omega, by omega, hA⟩
theorem rng2_ok {i j : Int} {A : Prop} (h : -100000 ≤ i ∧ i ≤ 100000 ∧ -100000 ≤ j ∧ j ≤ 100000) (hA : A) : (-(2 ^ 62) ≤ i ∧ i < 2 ^ 62 ∧ -(2 ^ 62) ≤ j ∧ j < 2 ^ 62) ∧ A := by
  have big : (2 : Int) ^ 62 = 4611686018427387904 := by decide
  rw [big]
  exact ⟨⟨by omega, by omega, by omega, by omega⟩, hA⟩
theorem map_getD_range {α : Type} (l : List α) (d : α) : (List.range l.length).map (fun i => l.getD i d) = l := (range_map_getD l d id).trans (List.map_id l)
/-- what is owned, in another order (is: the places) -/
theorem Own.reorder {S B0 B H : Hp} {as : List Addr} {l : List (Addr × HO)} (w : Own S B0 as B l H) (is : List Nat) (hn : l.length = is.length := by rfl) (h : is.Perm (List.range is.length) := by decide +kernel) : Own S B0 as B (is.map fun i => l.getD i (0, .lst [])) H := by
  refine w.perm ((h.map _).trans ?_)
  rw [← hn, map_getD_range]
theorem Own.pre {S B0 B H : Hp} {as : List Addr} {l l2 : List (Addr × HO)} (w : Own S B0 as B (l ++ l2) H) : Own S B0 as B l H := w.sub (fun _ hc => List.mem_append_left _ hc) (by
  have nd := w.c.nd
  rw [List.map_append] at nd
  exact (List.nodup_append.mp nd).1)
/-- some of what is owned (is: their places; rest: the others') -/
theorem Own.pick {S B0 B H : Hp} {as : List Addr} {l : List (Addr × HO)} (w : Own S B0 as B l H) (is rest : List Nat) (hn : l.length = (is ++ rest).length := by rfl) (h : (is ++ rest).Perm (List.range (is ++ rest).length) := by decide +kernel) : Own S B0 as B (is.map fun i => l.getD i (0, .lst [])) H := by
  have w2 := w.reorder _ hn h
  rw [List.map_append] at w2
  exact w2.pre
/-! ### for x in range(lo, hi, c) -/
@[irreducible] def mForR3 (ta : TA) (j : Nat) (tb : TS) : TS := fun D σ H => ta σ H fun ws H1 => ∃ (lo hi c : Int) (n : Nat) (Pv : Nat → L2.St → Hp → Prop), ws = [.int lo, .int hi, .int c] ∧ RgC lo hi c n ∧ Pv 0 σ H1 ∧
  (∀ i σ' H', i < n → Pv i σ' H' → tb { D with nx := Pv (i + 1), ct := Pv (i + 1), bk := D.nx } (σ'.set j (some (.int (lo + (i : Nat) * c)))) H') ∧ ∀ σ' H', Pv n σ' H' → D.nx σ' H'
theorem rd_forR3 {ta : TA} {j : Nat} {tb : TS} {D : Ends} {σ : L2.St} {H : Hp} (h : ta σ H fun ws H1 => ∃ (lo hi c : Int) (n : Nat) (Pv : Nat → L2.St → Hp → Prop), ws = [.int lo, .int hi, .int c] ∧ RgC lo hi c n ∧ Pv 0 σ H1 ∧
  (∀ i σ' H', i < n → Pv i σ' H' → tb { D with nx := Pv (i + 1), ct := Pv (i + 1), bk := D.nx } (σ'.set j (some (.int (lo + (i : Nat) * c)))) H') ∧ ∀ σ' H', Pv n σ' H' → D.nx σ' H') : mForR3 ta j tb D σ H := by
  unfold mForR3
  exact h
theorem ps_forR3 {X : Cx} {ta : TA} {pos : Pos} {j : Nat} {x : Str} {a b c : Expr} {body : List Stmt} {tb : TS} {p p2 xpos : Pos} (hp : PassesOwn (model X.prog X.w) X.A X.env X.xe) (hc : X.calm = true) (hg : Gl X "range") (hm : X.mg "range" = none) (ha : PA X [a, b, c] ta) (hgt : PG X (.Name x xpos) (gName j)) (hb : PSs X body tb)
    (hs : starEach [a, b, c] X.env = (false, eval a X.env) :: starEach [b, c] X.env := by rfl) (hpl : (backTo p2 (starEach [b, c] X.env)).any (·.1) = false := by rfl) (hs2 : ∀ y, foldedSetIterable (.Call (.Name "range" p) [a, b, c] [] p2) X.env y = pure y := by intro _; rfl) :
    PS X (.For (.Name x xpos) (.Call (.Name "range" p) [a, b, c] [] p2) body [] pos) (mForR3 ta j tb) :=
  ps_weak (ps_for hp hc (pi_range3 hg hm (pa_c ha) hs hpl) hgt hb hs2) fun D σ H q => by
    unfold mForR3 at q
    refine ⟨_, q, fun ws H1 r => ?_⟩
    obtain ⟨lo, hi, c, n, Pv, rfl, h1, h0, hs, hd⟩ := r
    refine ⟨lo, hi, c, n, rfl, h1, ?_⟩
    refine for_it (walk_rangeC (lo := lo) (c := c) (n := n)) Pv h0 (fun _ _ _ _ _ => trivial) (fun i x σ' H' H'' hi p y => ?_) hd
    obtain ⟨rfl, rfl⟩ := y
    exact hs i σ' _ hi p
end My
namespace My
open PySem L2
/-! ### sorted(d), a dict of whole numbers, any number of them -/
section
open PySem.Spec PyProof.Rows
variable {X : Cx}
theorem call_sortDB (hcl : X.calm = true) : CallR X (.builtin "sorted") (fun xs H Q => ∃ (a : Addr) (kvs : List (Key × V)) (ns : List Int), xs = [.ref a] ∧ H a = some (.dK kvs) ∧ kvs.map Prod.fst = ns.map Sum.inl ∧ ∀ (ys : List Int) (p : Addr), ys.Perm ns → ys.Pairwise (· ≤ ·) → H p = none → Q (.ref p) (upd H p (.lst (ys.map V.int)))) := by
  intro pins st σ H xs vals Q inv rv q
  obtain ⟨a, kvs, ns, rfl, hd, hkn, q⟩ := q
  obtain ⟨u, rfl, ru⟩ := vals1 rv
  cases ru
  obtain ⟨hzl, hlo, ents, hrel, hdd⟩ := dk_rd inv.hok (.inl hd)
  obtain ⟨ep, hat⟩ := hdd.dictAt
  have hek : ents.map (·.1) = ns.map Sum.inl := hrel.keys.symm.trans hkn
  have hen : ents.length = ns.length := by
    have := congrArg List.length hek
    rwa [List.length_map, List.length_map] at this
  have hkn2 : kvs.length = ns.length := by
    have := congrArg List.length hkn
    rwa [List.length_map, List.length_map] at this
  have hsz : ents.length ≤ sizeLine := by omega
  refine (Calls.call_function_entry kind_sorted plain_sorted entry_sorted (args_sorted1 _) ?_)
  unfold Builtin.«sorted»
  refine (wpAny_bind (m := checkCount "sorted" 1 1 _) (wpAny_pure ?_))
  refine (wpAny_bind (PySem.W.kdu_collect (A := X.A.in1) (PySem.W.kdl_dict (knd := mixKind X.prog X.w) (kvs := ents) (ep := ep) hlo) (inv.ok.hd hcl) hat hsz fun h2 tk acc kp hacc => ?_))
  have hal : acc.toList.length = ns.length := by rw [Array.length_toList, hacc.1, hen]
  have hints : IntsAre acc.toList ns := ints_each hal fun j v ej => by
    obtain ⟨k, x, g1, g2⟩ := hacc.2 j v (by rw [← Array.getElem?_toList]; exact ej)
    have g3 : (ents.map (·.1))[j]? = some k := by rw [List.getElem?_map, g1]; rfl
    rw [hek, List.getElem?_map] at g3
    cases g4 : ns[j]? with
    | none => rw [g4] at g3; cases g3
    | some y =>
      rw [g4] at g3
      have g5 : Sum.inl y = k := Option.some.inj g3
      subst g5
      rcases keyIs_shape (show keyIs (Sum.inl y) v = true from g2) with ⟨i, t, ek, ev⟩ | ⟨z, t, ek, ev⟩
      · cases ek
        exact ⟨y, t, rfl, ev⟩
      · cases ek
  have inv2 : Inv X pins σ H { st with heap := h2, toks := tk } := inv.kept kp
  have hal2 : acc.toList.length ≤ sizeLine := by omega
  refine (wpAny_bind (wpAny_newList ?_ hal2))
  have hnew : (h2.push (seqObj "list" acc.toList.toArray 0)).get? h2.objs.size = some (seqObj "list" acc.toList.toArray 0) := Heap.get?_push_size _ rfl
  show wpAny _ _ _ _ _ { st with heap := h2.push (seqObj "list" acc.toList.toArray 0), toks := tk }
  refine (wpAny_bind (wpAny_holding (wpAny_call_entry slot_list_sort ⟨_, hnew, rfl⟩ entry_list_sort
    (SrtO.list_sort_ord (s := { st with heap := h2.push (seqObj "list" acc.toList.toArray 0), toks := tk }) SrtO.swo_int hnew hal2 (fun g2 => SrtO.ints_sortable hints g2) fun out g1 g2 => ⟨_, rfl, ?_⟩) (args_list_sort _))))
  obtain ⟨k1, k2, k3⟩ := SrtO.ints_out hints g1 g2
  obtain ⟨e2, he2⟩ := sortedHeap_at (vs := acc.toList) (out := out.toArray) hnew
  have hyl : ((out.map SrtO.iv).map V.int).length ≤ sizeLine := by
    rw [List.length_map, k2.length_eq]
    omega
  refine wpAny_pure ⟨_, rfl, .ref h2.objs.size, upd H h2.objs.size (.lst ((out.map SrtO.iv).map V.int)), inv2.laid (t' := tk) (fun b u eb => ?_) (Nat.le_refl _)
    (show ObjOk X.prog X.w _ _ _ (.lst ((out.map SrtO.iv).map V.int)) from ⟨hyl, out, e2, vals_of_ints k1, he2⟩), rfl, q _ _ k2 k3 (inv2.hok.fresh (Nat.le_refl _))⟩
  have hbl : b < h2.objs.size := Heap.lt_size eb
  rw [sortedHeap_old (Nat.ne_of_lt hbl) (by rw [Heap.size_push]; exact Nat.lt_succ_of_lt hbl)]
  exact Heap.get?_push_of_some _ eb
end
@[irreducible] def mSortDB : List V → Hp → VK → Prop := fun xs H Q => ∃ (a : Addr) (kvs : List (Key × V)) (ns : List Int), xs = [.ref a] ∧ H a = some (.dK kvs) ∧ kvs.map Prod.fst = ns.map Sum.inl ∧ ∀ ys : List Int, ys.Perm ns → ys.Pairwise (· ≤ ·) → NewO (.lst (ys.map V.int)) H Q
theorem rd_sortDB {H : Hp} {Q : VK} {a : Addr} {kvs : List (Key × V)} {ns : List Int} (h : H a = some (.dK kvs)) (hk : kvs.map Prod.fst = ns.map Sum.inl) (q : ∀ ys : List Int, ys.Perm ns → ys.Pairwise (· ≤ ·) → NewO (.lst (ys.map V.int)) H Q) : mSortDB [.ref a] H Q := by
  unfold mSortDB
  exact ⟨a, kvs, ns, rfl, h, hk, q⟩
theorem call_sortDBM {X : Cx} (hc : X.calm = true) : CallR X (.builtin "sorted") mSortDB := fun pins s σ H xs us Q I r q => call_sortDB hc pins s σ H xs us Q I r (by
  unfold mSortDB at q
  obtain ⟨a, kvs, ns, e, h, hk, q⟩ := q
  exact ⟨a, kvs, ns, e, h, hk, fun ys p hp ho => (q ys hp ho).go p⟩)
end My

namespace My
open PySem L2
/-! ### the text by places -/
def topS (i : Nat) : Stmt := PySem.Challenge.pw_bearerwise_k30_whole_stays.main.body.getD i (.Pass ⟨0, 0, 0, 0⟩)
abbrev S_u_wall : Stmt := topS 0
abbrev S_window_size : Stmt := topS 2
abbrev S_distance : Stmt := topS 3
abbrev S_read_short : Stmt := topS 4
abbrev S_short_of : Stmt := topS 6
abbrev S_window : Stmt := topS 7
abbrev S_count_near : Stmt := topS 8
abbrev S_BearerError___init__ : Stmt := inClass (topS 10) 0
abbrev S_u_in_order : Stmt := topS 13
abbrev S_UpperSender___init__ : Stmt := inClass (topS 14) 0
abbrev S_UpperSender_may_add : Stmt := inClass (topS 14) 1
abbrev S_UpperSender_add : Stmt := inClass (topS 14) 2
abbrev S_UpperSender_next_count : Stmt := inClass (topS 14) 3
abbrev S_UpperSender_base : Stmt := inClass (topS 14) 4
abbrev S_UpperSender_unconfirmed : Stmt := inClass (topS 14) 5
abbrev S_UpperSender_confirm : Stmt := inClass (topS 14) 6
abbrev S_UpperSender_take_report : Stmt := inClass (topS 14) 7
abbrev S_UpperReceiver___init__ : Stmt := inClass (topS 15) 0
abbrev S_UpperReceiver_first_missing : Stmt := inClass (topS 15) 1
abbrev S_UpperReceiver_take : Stmt := inClass (topS 15) 2
abbrev S_UpperReceiver_take_count : Stmt := inClass (topS 15) 3
abbrev S_UpperReceiver_report : Stmt := inClass (topS 15) 4
abbrev S_UpperReceiver_held : Stmt := inClass (topS 15) 5
abbrev S_row_of : Stmt := topS 20
abbrev S_mark_of : Stmt := topS 21
abbrev S_u_with_row : Stmt := topS 22
abbrev S_cover : Stmt := topS 23
abbrev S_uncover : Stmt := topS 24
abbrev S_u_law_cell : Stmt := topS 26
abbrev S_u_law_digits : Stmt := topS 27
abbrev S_u_law_many : Stmt := topS 28
abbrev S_u_law_come : Stmt := topS 29
abbrev S_u_law_pieces : Stmt := topS 30
abbrev S_u_law_stay : Stmt := topS 31
abbrev S_law : Stmt := topS 32
theorem sc_u_wall : FnScope ["k"] ["k"] (defScope S_u_wall) := ⟨rfl, rfl, rfl, by decide +kernel, rfl, by decide +kernel, by decide +kernel⟩
theorem sc_window_size : FnScope ["bits"] ["bits"] (defScope S_window_size) := ⟨rfl, rfl, rfl, by decide +kernel, rfl, by decide +kernel, by decide +kernel⟩
theorem sc_distance : FnScope ["base", "value", "bits"] ["base", "value", "bits"] (defScope S_distance) := ⟨rfl, rfl, rfl, by decide +kernel, rfl, by decide +kernel, by decide +kernel⟩
theorem sc_read_short : FnScope ["value", "base", "behind", "bits", "least"] ["value", "base", "behind", "bits"] (defScope S_read_short) := ⟨rfl, rfl, rfl, by decide +kernel, rfl, by decide +kernel, by decide +kernel⟩
theorem sc_short_of : FnScope ["count", "bits"] ["count", "bits"] (defScope S_short_of) := ⟨rfl, rfl, rfl, by decide +kernel, rfl, by decide +kernel, by decide +kernel⟩
theorem sc_window : FnScope ["bits"] ["bits"] (defScope S_window) := ⟨rfl, rfl, rfl, by decide +kernel, rfl, by decide +kernel, by decide +kernel⟩
theorem sc_count_near : FnScope ["expected", "short", "bits", "count"] ["expected", "short", "bits"] (defScope S_count_near) := ⟨rfl, rfl, rfl, by decide +kernel, rfl, by decide +kernel, by decide +kernel⟩
theorem sc_BearerError___init__ : FnScope ["self"] ["self"] (defScope S_BearerError___init__) := ⟨rfl, rfl, rfl, by decide +kernel, rfl, by decide +kernel, by decide +kernel⟩
theorem sc_u_in_order : FnScope ["packets", "count"] ["packets"] (defScope S_u_in_order) := ⟨rfl, rfl, rfl, by decide +kernel, rfl, by decide +kernel, by decide +kernel⟩
theorem sc_UpperSender___init__ : FnScope ["self", "bits"] ["self", "bits"] (defScope S_UpperSender___init__) := ⟨rfl, rfl, rfl, by decide +kernel, rfl, by decide +kernel, by decide +kernel⟩
theorem sc_UpperSender_may_add : FnScope ["self"] ["self"] (defScope S_UpperSender_may_add) := ⟨rfl, rfl, rfl, by decide +kernel, rfl, by decide +kernel, by decide +kernel⟩
theorem sc_UpperSender_add : FnScope ["self", "packet", "count"] ["self", "packet"] (defScope S_UpperSender_add) := ⟨rfl, rfl, rfl, by decide +kernel, rfl, by decide +kernel, by decide +kernel⟩
theorem sc_UpperSender_next_count : FnScope ["self"] ["self"] (defScope S_UpperSender_next_count) := ⟨rfl, rfl, rfl, by decide +kernel, rfl, by decide +kernel, by decide +kernel⟩
theorem sc_UpperSender_base : FnScope ["self"] ["self"] (defScope S_UpperSender_base) := ⟨rfl, rfl, rfl, by decide +kernel, rfl, by decide +kernel, by decide +kernel⟩
theorem sc_UpperSender_unconfirmed : FnScope ["self"] ["self"] (defScope S_UpperSender_unconfirmed) := ⟨rfl, rfl, rfl, by decide +kernel, rfl, by decide +kernel, by decide +kernel⟩
theorem sc_UpperSender_confirm : FnScope ["self", "count"] ["self", "count"] (defScope S_UpperSender_confirm) := ⟨rfl, rfl, rfl, by decide +kernel, rfl, by decide +kernel, by decide +kernel⟩
theorem sc_UpperSender_take_report : FnScope ["self", "first", "later", "count"] ["self", "first", "later"] (defScope S_UpperSender_take_report) := ⟨rfl, rfl, rfl, by decide +kernel, rfl, by decide +kernel, by decide +kernel⟩
theorem sc_UpperReceiver___init__ : FnScope ["self", "bits"] ["self", "bits"] (defScope S_UpperReceiver___init__) := ⟨rfl, rfl, rfl, by decide +kernel, rfl, by decide +kernel, by decide +kernel⟩
theorem sc_UpperReceiver_first_missing : FnScope ["self"] ["self"] (defScope S_UpperReceiver_first_missing) := ⟨rfl, rfl, rfl, by decide +kernel, rfl, by decide +kernel, by decide +kernel⟩
theorem sc_UpperReceiver_take : FnScope ["self", "short", "packet", "count"] ["self", "short", "packet"] (defScope S_UpperReceiver_take) := ⟨rfl, rfl, rfl, by decide +kernel, rfl, by decide +kernel, by decide +kernel⟩
theorem sc_UpperReceiver_take_count : FnScope ["self", "count", "packet", "given"] ["self", "count", "packet"] (defScope S_UpperReceiver_take_count) := ⟨rfl, rfl, rfl, by decide +kernel, rfl, by decide +kernel, by decide +kernel⟩
theorem sc_UpperReceiver_report : FnScope ["self"] ["self"] (defScope S_UpperReceiver_report) := ⟨rfl, rfl, rfl, by decide +kernel, rfl, by decide +kernel, by decide +kernel⟩
theorem sc_UpperReceiver_held : FnScope ["self"] ["self"] (defScope S_UpperReceiver_held) := ⟨rfl, rfl, rfl, by decide +kernel, rfl, by decide +kernel, by decide +kernel⟩
theorem sc_row_of : FnScope ["key", "bearer", "way", "count", "size", "state", "row", "_"] ["key", "bearer", "way", "count", "size"] (defScope S_row_of) := ⟨rfl, rfl, rfl, by decide +kernel, rfl, by decide +kernel, by decide +kernel⟩
theorem sc_mark_of : FnScope ["key", "bearer", "way", "count", "mark"] ["key", "bearer", "way", "count"] (defScope S_mark_of) := ⟨rfl, rfl, rfl, by decide +kernel, rfl, by decide +kernel, by decide +kernel⟩
theorem sc_u_with_row : FnScope ["row", "packet", "one", "other"] ["row", "packet"] (defScope S_u_with_row) := ⟨rfl, rfl, rfl, by decide +kernel, rfl, by decide +kernel, by decide +kernel⟩
theorem sc_cover : FnScope ["key", "bearer", "way", "count", "packet", "row"] ["key", "bearer", "way", "count", "packet"] (defScope S_cover) := ⟨rfl, rfl, rfl, by decide +kernel, rfl, by decide +kernel, by decide +kernel⟩
theorem sc_uncover : FnScope ["key", "bearer", "way", "count", "covered", "size", "packet"] ["key", "bearer", "way", "count", "covered"] (defScope S_uncover) := ⟨rfl, rfl, rfl, by decide +kernel, rfl, by decide +kernel, by decide +kernel⟩
theorem sc_u_law_cell : FnScope ["script", "k"] ["script", "k"] (defScope S_u_law_cell) := ⟨rfl, rfl, rfl, by decide +kernel, rfl, by decide +kernel, by decide +kernel⟩
theorem sc_u_law_digits : FnScope ["cell", "bases", "digits", "rest", "base", "mixed"] ["cell", "bases"] (defScope S_u_law_digits) := ⟨rfl, rfl, rfl, by decide +kernel, rfl, by decide +kernel, by decide +kernel⟩
theorem sc_u_law_many : FnScope ["script", "few", "many"] ["script", "few", "many"] (defScope S_u_law_many) := ⟨rfl, rfl, rfl, by decide +kernel, rfl, by decide +kernel, by decide +kernel⟩
theorem sc_u_law_come : FnScope ["receiver", "bits", "key", "piece", "count", "packet"] ["receiver", "bits", "key", "piece"] (defScope S_u_law_come) := ⟨rfl, rfl, rfl, by decide +kernel, rfl, by decide +kernel, by decide +kernel⟩
theorem sc_u_law_pieces : FnScope ["sender", "bits", "key", "first", "pieces", "count", "packet"] ["sender", "bits", "key", "first"] (defScope S_u_law_pieces) := ⟨rfl, rfl, rfl, by decide +kernel, rfl, by decide +kernel, by decide +kernel⟩
theorem sc_u_law_stay : FnScope ["state", "key", "digits", "lossless", "sender", "receiver", "bits", "put", "out", "first", "later", "air", "k", "come", "count", "given"] ["state", "key", "digits", "lossless"] (defScope S_u_law_stay) := ⟨rfl, rfl, rfl, by decide +kernel, rfl, by decide +kernel, by decide +kernel⟩
theorem sc_law : FnScope ["script", "bits", "state", "stays", "key", "digits"] ["script"] (defScope S_law) := ⟨rfl, rfl, rfl, by decide +kernel, rfl, by decide +kernel, by decide +kernel⟩
/-! ### what the top has written -/
structure Tx (P : Program) (w : World) (K : PySem.W.Frag) (mg : Str → Option Value) (base : Heap) where
  n_len : mg "len" = none
  n_range : mg "range" = none
  n_int : mg "int" = none
  n_sum : mg "sum" = none
  n_zip : mg "zip" = none
  n_min : mg "min" = none
  n_list : mg "list" = none
  n_sorted : mg "sorted" = none
  g_MODULUS : (∃ t, mg "MODULUS" = some (.int 2147483647 t))
  g_MARK_MASK : (∃ t, mg "MARK_MASK" = some (.int 23205 t))
  g_TAIL_BYTES : (∃ t, mg "TAIL_BYTES" = some (.int 3 t))
  C_BearerError : Addr
  g_BearerError : mg "BearerError" = some (.ref C_BearerError)
  C_NotValid : Addr
  g_NotValid : mg "NotValid" = some (.ref C_NotValid)
  C_UpperSender : Addr
  g_UpperSender : mg "UpperSender" = some (.ref C_UpperSender)
  C_UpperReceiver : Addr
  g_UpperReceiver : mg "UpperReceiver" = some (.ref C_UpperReceiver)
  a_u_wall : Addr
  d_u_wall : FuncData
  p_u_wall : DefAt K mg "_wall" "_wall" S_u_wall ["k"] a_u_wall d_u_wall
  a_window_size : Addr
  d_window_size : FuncData
  p_window_size : DefAt K mg "window_size" "window_size" S_window_size ["bits"] a_window_size d_window_size
  a_distance : Addr
  d_distance : FuncData
  p_distance : DefAt K mg "distance" "distance" S_distance ["base", "value", "bits"] a_distance d_distance
  a_read_short : Addr
  d_read_short : FuncData
  p_read_short : DefAt K mg "read_short" "read_short" S_read_short ["value", "base", "behind", "bits"] a_read_short d_read_short
  a_short_of : Addr
  d_short_of : FuncData
  p_short_of : DefAt K mg "short_of" "short_of" S_short_of ["count", "bits"] a_short_of d_short_of
  a_window : Addr
  d_window : FuncData
  p_window : DefAt K mg "window" "window" S_window ["bits"] a_window d_window
  a_count_near : Addr
  d_count_near : FuncData
  p_count_near : DefAt K mg "count_near" "count_near" S_count_near ["expected", "short", "bits"] a_count_near d_count_near
  a_BearerError___init__ : Addr
  d_BearerError___init__ : FuncData
  p_BearerError___init__ : DefAt0 K "__init__" "BearerError.__init__" S_BearerError___init__ ["self"] a_BearerError___init__ d_BearerError___init__
  a_u_in_order : Addr
  d_u_in_order : FuncData
  p_u_in_order : DefAt K mg "_in_order" "_in_order" S_u_in_order ["packets"] a_u_in_order d_u_in_order
  a_UpperSender___init__ : Addr
  d_UpperSender___init__ : FuncData
  p_UpperSender___init__ : MethAt K C_UpperSender "__init__" "UpperSender.__init__" S_UpperSender___init__ ["self", "bits"] a_UpperSender___init__ d_UpperSender___init__
  a_UpperSender_may_add : Addr
  d_UpperSender_may_add : FuncData
  p_UpperSender_may_add : MethAt K C_UpperSender "may_add" "UpperSender.may_add" S_UpperSender_may_add ["self"] a_UpperSender_may_add d_UpperSender_may_add
  a_UpperSender_add : Addr
  d_UpperSender_add : FuncData
  p_UpperSender_add : MethAt K C_UpperSender "add" "UpperSender.add" S_UpperSender_add ["self", "packet"] a_UpperSender_add d_UpperSender_add
  a_UpperSender_next_count : Addr
  d_UpperSender_next_count : FuncData
  p_UpperSender_next_count : MethAt K C_UpperSender "next_count" "UpperSender.next_count" S_UpperSender_next_count ["self"] a_UpperSender_next_count d_UpperSender_next_count
  a_UpperSender_base : Addr
  d_UpperSender_base : FuncData
  p_UpperSender_base : MethAt K C_UpperSender "base" "UpperSender.base" S_UpperSender_base ["self"] a_UpperSender_base d_UpperSender_base
  a_UpperSender_unconfirmed : Addr
  d_UpperSender_unconfirmed : FuncData
  p_UpperSender_unconfirmed : MethAt K C_UpperSender "unconfirmed" "UpperSender.unconfirmed" S_UpperSender_unconfirmed ["self"] a_UpperSender_unconfirmed d_UpperSender_unconfirmed
  a_UpperSender_confirm : Addr
  d_UpperSender_confirm : FuncData
  p_UpperSender_confirm : MethAt K C_UpperSender "confirm" "UpperSender.confirm" S_UpperSender_confirm ["self", "count"] a_UpperSender_confirm d_UpperSender_confirm
  a_UpperSender_take_report : Addr
  d_UpperSender_take_report : FuncData
  p_UpperSender_take_report : MethAt K C_UpperSender "take_report" "UpperSender.take_report" S_UpperSender_take_report ["self", "first", "later"] a_UpperSender_take_report d_UpperSender_take_report
  a_UpperReceiver___init__ : Addr
  d_UpperReceiver___init__ : FuncData
  p_UpperReceiver___init__ : MethAt K C_UpperReceiver "__init__" "UpperReceiver.__init__" S_UpperReceiver___init__ ["self", "bits"] a_UpperReceiver___init__ d_UpperReceiver___init__
  a_UpperReceiver_first_missing : Addr
  d_UpperReceiver_first_missing : FuncData
  p_UpperReceiver_first_missing : MethAt K C_UpperReceiver "first_missing" "UpperReceiver.first_missing" S_UpperReceiver_first_missing ["self"] a_UpperReceiver_first_missing d_UpperReceiver_first_missing
  a_UpperReceiver_take : Addr
  d_UpperReceiver_take : FuncData
  p_UpperReceiver_take : MethAt K C_UpperReceiver "take" "UpperReceiver.take" S_UpperReceiver_take ["self", "short", "packet"] a_UpperReceiver_take d_UpperReceiver_take
  a_UpperReceiver_take_count : Addr
  d_UpperReceiver_take_count : FuncData
  p_UpperReceiver_take_count : MethAt K C_UpperReceiver "take_count" "UpperReceiver.take_count" S_UpperReceiver_take_count ["self", "count", "packet"] a_UpperReceiver_take_count d_UpperReceiver_take_count
  a_UpperReceiver_report : Addr
  d_UpperReceiver_report : FuncData
  p_UpperReceiver_report : MethAt K C_UpperReceiver "report" "UpperReceiver.report" S_UpperReceiver_report ["self"] a_UpperReceiver_report d_UpperReceiver_report
  a_UpperReceiver_held : Addr
  d_UpperReceiver_held : FuncData
  p_UpperReceiver_held : MethAt K C_UpperReceiver "held" "UpperReceiver.held" S_UpperReceiver_held ["self"] a_UpperReceiver_held d_UpperReceiver_held
  a_row_of : Addr
  d_row_of : FuncData
  p_row_of : DefAt K mg "row_of" "row_of" S_row_of ["key", "bearer", "way", "count", "size"] a_row_of d_row_of
  a_mark_of : Addr
  d_mark_of : FuncData
  p_mark_of : DefAt K mg "mark_of" "mark_of" S_mark_of ["key", "bearer", "way", "count"] a_mark_of d_mark_of
  a_u_with_row : Addr
  d_u_with_row : FuncData
  p_u_with_row : DefAt K mg "_with_row" "_with_row" S_u_with_row ["row", "packet"] a_u_with_row d_u_with_row
  a_cover : Addr
  d_cover : FuncData
  p_cover : DefAt K mg "cover" "cover" S_cover ["key", "bearer", "way", "count", "packet"] a_cover d_cover
  a_uncover : Addr
  d_uncover : FuncData
  p_uncover : DefAt K mg "uncover" "uncover" S_uncover ["key", "bearer", "way", "count", "covered"] a_uncover d_uncover
  a_u_law_cell : Addr
  d_u_law_cell : FuncData
  p_u_law_cell : DefAt K mg "_law_cell" "_law_cell" S_u_law_cell ["script", "k"] a_u_law_cell d_u_law_cell
  a_u_law_digits : Addr
  d_u_law_digits : FuncData
  p_u_law_digits : DefAt K mg "_law_digits" "_law_digits" S_u_law_digits ["cell", "bases"] a_u_law_digits d_u_law_digits
  a_u_law_many : Addr
  d_u_law_many : FuncData
  p_u_law_many : DefAt K mg "_law_many" "_law_many" S_u_law_many ["script", "few", "many"] a_u_law_many d_u_law_many
  a_u_law_come : Addr
  d_u_law_come : FuncData
  p_u_law_come : DefAt K mg "_law_come" "_law_come" S_u_law_come ["receiver", "bits", "key", "piece"] a_u_law_come d_u_law_come
  a_u_law_pieces : Addr
  d_u_law_pieces : FuncData
  p_u_law_pieces : DefAt K mg "_law_pieces" "_law_pieces" S_u_law_pieces ["sender", "bits", "key", "first"] a_u_law_pieces d_u_law_pieces
  a_u_law_stay : Addr
  d_u_law_stay : FuncData
  p_u_law_stay : DefAt K mg "_law_stay" "_law_stay" S_u_law_stay ["state", "key", "digits", "lossless"] a_u_law_stay d_u_law_stay
  a_law : Addr
  d_law : FuncData
  p_law : DefAt K mg "law" "law" S_law ["script"] a_law d_law
  o_BearerError : OexC K C_BearerError
  i_BearerError : PySem.W.findIn K (.ref C_BearerError) "__init__" = some (some (.ref a_BearerError___init__))
  t_BearerError : PySem.W.typeIn K (.ref a_BearerError___init__) = some (.type "function")
  e_BearerError : ExcC K C_BearerError
  s_BearerError_BearerError : PySem.W.subIn K (.ref C_BearerError) (.ref C_BearerError) = some true
  s_BearerError_NotValid : PySem.W.subIn K (.ref C_BearerError) (.ref C_NotValid) = some false
  y_BearerError : PySem.W.typeIn K (.ref C_BearerError) = some (.type "type")
  l_BearerError : PySem.W.isClsIn K C_BearerError = true
  o_NotValid : OexC K C_NotValid
  i_NotValid : PySem.W.findIn K (.ref C_NotValid) "__init__" = some (some (.ref a_BearerError___init__))
  t_NotValid : PySem.W.typeIn K (.ref a_BearerError___init__) = some (.type "function")
  e_NotValid : ExcC K C_NotValid
  s_NotValid_BearerError : PySem.W.subIn K (.ref C_NotValid) (.ref C_BearerError) = some true
  s_NotValid_NotValid : PySem.W.subIn K (.ref C_NotValid) (.ref C_NotValid) = some true
  y_NotValid : PySem.W.typeIn K (.ref C_NotValid) = some (.type "type")
  l_NotValid : PySem.W.isClsIn K C_NotValid = true
  k_UpperSender : ClsAt K C_UpperSender a_UpperSender___init__
  f_UpperSender__bits : NoAttr K C_UpperSender "_bits"
  f_UpperSender__next : NoAttr K C_UpperSender "_next"
  f_UpperSender__packets : NoAttr K C_UpperSender "_packets"
  k_UpperReceiver : ClsAt K C_UpperReceiver a_UpperReceiver___init__
  f_UpperReceiver__bits : NoAttr K C_UpperReceiver "_bits"
  f_UpperReceiver__first : NoAttr K C_UpperReceiver "_first"
  f_UpperReceiver__ahead : NoAttr K C_UpperReceiver "_ahead"
/-! ### the walk's own steps -/
local macro_rules | `(tactic| walk_at "side") => `(tactic| first
  | exact rfl
  | assumption
  | omega
  | decide
  | exact Nat.le_of_ble_eq_true rfl
  | exact ⟨by omega, by omega⟩
  | exact ⟨by omega, by omega, by omega⟩
  | exact Or.inl ⟨by omega, by omega⟩
  | exact Or.inr ⟨by omega, by omega⟩)
local macro_rules | `(tactic| walk_at "sm") => `(tactic| first
  | assumption
  | exact Same.refl _
  | (apply Own.imm; assumption)
  | (apply Own.same; assumption)
  | (refine Same.trans ?_ (by assumption); walk_at "sm")
  | (apply Same.trans; rotate_left; (apply Own.imm; assumption); walk_at "sm")
  | (apply Same.trans; rotate_left; (apply Own.same; assumption); walk_at "sm"))
local macro_rules | `(tactic| walk_at "mem") => `(tactic| first
  | exact List.Mem.head _
  | (apply List.Mem.tail; walk_at "mem"))
local macro_rules | `(tactic| walk_at "nn") => `(tactic| first
  | assumption
  | (refine same_none (?_ : Same _ _) (by assumption); walk_at "sm"))
local macro_rules | `(tactic| walk_at "hp") => `(tactic| first
  | assumption
  | (apply Own.mem; assumption; walk_at "mem")
  | (apply hp_step; assumption; walk_at "sm"))
local macro_rules | `(tactic| walk_at "sq") => `(tactic| first
  | assumption
  | (apply sq_of; assumption)
  | (apply st_of; assumption)
  | (apply sq_step; assumption; walk_at "sm")
  | (apply sqt_step; assumption; walk_at "sm")
  | (apply sq_of; walk_at "hp")
  | (apply st_of; walk_at "hp"))
local macro_rules | `(tactic| walk_at "rd") => `(tactic| first
  | refine ⟨_, rfl, ?_⟩
  | refine ⟨_, _, rfl, rfl, ?_⟩
  | refine Or.inl ⟨_, rfl, ?_⟩
  | refine Or.inr ⟨_, rfl, ?_⟩
  | refine ⟨_, _, _, rfl, ?_⟩
  | with_reducible refine br_nonI ?_
  | with_reducible refine br_nonR ?_
  | with_reducible refine br_nonN ?_
  | with_reducible refine br_xnonI ?_
  | with_reducible refine br_xnonR ?_
  | with_reducible refine br_xnonN ?_
  | refine And.intro (by walk_at "side") ?_
  | refine rd_tup ?_
  | refine rd_lst ?_
  | with_reducible refine br_F ?_
  | with_reducible refine br_T ?_
  | with_reducible refine br_nF ?_
  | with_reducible refine br_nT ?_
  | refine ⟨_, rfl, rfl, ?_⟩
  | with_reducible refine rd_yes ?_
  | refine rd_isiIB ?_
  | refine rd_isiII ?_
  | refine rd_getF (by walk_at "hp") rfl ?_
  | refine rd_ins (by walk_at "hp") rfl ?_
  | refine rd_din (by walk_at "hp") ?_
  | refine rd_dnotin (by walk_at "hp") ?_
  | refine rd_truB ?_
  | refine rd_truL (by walk_at "sq") ?_
  | refine rd_sum (by walk_at "sq") ?_
  | refine rd_lenI (by walk_at "sq") ?_
  | refine rd_len (by walk_at "sq") ?_
  | refine ⟨_, _, rfl, (show _ = some _ from by walk_at "hp"), ?_⟩)

section
variable {P : Program} {w : World} {K : PySem.W.Frag} {mg : Str → Option Value} {base : Heap}
theorem ok_BearerError___init__ (T : Tx P w K mg base) : FnOk P w K mg base CX0 1 T.a_BearerError___init__ T.d_BearerError___init__ ["self"] spInit0 := by
  refine T.p_BearerError___init__.F.ok sc_BearerError___init__ (fun vs H Q E h => ?_) (fun cdv A outer s H vs Q E hr h => ?_)
  · obtain ⟨a, rfl, _⟩ := h
    rfl
  · obtain ⟨a, rfl, q⟩ := h
    exact ⟨_, pss_one ps_pass, q⟩
theorem Tx.x_BearerError (T : Tx P w K mg base) : PlainExc P w K mg base "BearerError" T.C_BearerError T.a_BearerError___init__ T.d_BearerError___init__ := ⟨T.o_BearerError, T.i_BearerError, T.t_BearerError, ok_BearerError___init__ T, T.p_BearerError___init__.b, T.g_BearerError⟩
theorem Tx.m_BearerError_BearerError (T : Tx P w K mg base) : PySem.W.exmOne K (.ref T.C_BearerError) (.ref T.C_BearerError) = some true := PySem.W.exm_ref T.o_BearerError.exC T.e_BearerError.hd T.y_BearerError T.s_BearerError_BearerError
theorem Tx.m_BearerError_NotValid (T : Tx P w K mg base) : PySem.W.exmOne K (.ref T.C_BearerError) (.ref T.C_NotValid) = some false := PySem.W.exm_ref T.o_NotValid.exC T.e_NotValid.hd T.y_NotValid T.s_BearerError_NotValid
theorem Tx.x_NotValid (T : Tx P w K mg base) : PlainExc P w K mg base "NotValid" T.C_NotValid T.a_BearerError___init__ T.d_BearerError___init__ := ⟨T.o_NotValid, T.i_NotValid, T.t_NotValid, ok_BearerError___init__ T, T.p_BearerError___init__.b, T.g_NotValid⟩
theorem Tx.m_NotValid_BearerError (T : Tx P w K mg base) : PySem.W.exmOne K (.ref T.C_NotValid) (.ref T.C_BearerError) = some true := PySem.W.exm_ref T.o_BearerError.exC T.e_BearerError.hd T.y_BearerError T.s_NotValid_BearerError
theorem Tx.m_NotValid_NotValid (T : Tx P w K mg base) : PySem.W.exmOne K (.ref T.C_NotValid) (.ref T.C_NotValid) = some true := PySem.W.exm_ref T.o_NotValid.exC T.e_NotValid.hd T.y_NotValid T.s_NotValid_NotValid
def sp_window_size (K : PySem.W.Frag) : Sp := fun vs H Q _ => ∃ b : Int, vs = [.int b] ∧ 1 ≤ b ∧ b ≤ 1000 ∧ Q (.int (2 ^ (b - 1).toNat)) H
@[irreducible] def ip_window_size (K : PySem.W.Frag) : Sp := sp_window_size K
theorem op_window_size {K : PySem.W.Frag} {vs : List V} {H : Hp} {Q : VK} {E : XK} (h : sp_window_size K vs H Q E) : ip_window_size K vs H Q E := by
  unfold ip_window_size
  exact h
theorem un_window_size {K : PySem.W.Frag} {vs : List V} {H : Hp} {Q : VK} {E : XK} (h : ip_window_size K vs H Q E) : sp_window_size K vs H Q E := by
  unfold ip_window_size at h
  exact h
theorem ok_window_size (T : Tx P w K mg base) : FnOk P w K mg base CX0 1 T.a_window_size T.d_window_size ["bits"] (ip_window_size K) := by
  refine T.p_window_size.F.ok sc_window_size (fun vs H Q E h => ?_) (fun cdv A outer s H vs Q E hr h => ?_)
  · obtain ⟨b, rfl, h1, h2, q⟩ := un_window_size h
    rfl
  · obtain ⟨b, rfl, h1, h2, q⟩ := un_window_size h
    refine ⟨_, (pss_one (ps_ret (pe_op op_shl1M pe_int (pe_op op_subM (pv 0) pe_int)))), ?_⟩
    (repeat walk_at "rd")
    exact q
def sp_distance (K : PySem.W.Frag) : Sp := fun vs H Q _ => ∃ n v b : Int, vs = [.int n, .int v, .int b] ∧ 0 ≤ b ∧ b ≤ 1000 ∧ Q (.int ((v - n) % 2 ^ b.toNat)) H
@[irreducible] def ip_distance (K : PySem.W.Frag) : Sp := sp_distance K
theorem op_distance {K : PySem.W.Frag} {vs : List V} {H : Hp} {Q : VK} {E : XK} (h : sp_distance K vs H Q E) : ip_distance K vs H Q E := by
  unfold ip_distance
  exact h
theorem un_distance {K : PySem.W.Frag} {vs : List V} {H : Hp} {Q : VK} {E : XK} (h : ip_distance K vs H Q E) : sp_distance K vs H Q E := by
  unfold ip_distance at h
  exact h
theorem ok_distance (T : Tx P w K mg base) : FnOk P w K mg base CX0 1 T.a_distance T.d_distance ["base", "value", "bits"] (ip_distance K) := by
  refine T.p_distance.F.ok sc_distance (fun vs H Q E h => ?_) (fun cdv A outer s H vs Q E hr h => ?_)
  · obtain ⟨n, v, b, rfl, h1, h2, q⟩ := un_distance h
    rfl
  · obtain ⟨n, v, b, rfl, h1, h2, q⟩ := un_distance h
    refine ⟨_, (pss_one (ps_ret (pe_op op_modM (pe_op op_subM (pv 1) (pv 0)) (pe_op op_shl1M pe_int (pv 2))))), ?_⟩
    (repeat walk_at "rd")
    refine ⟨two_pos _, ?_⟩
    exact q
def sp_read_short (K : PySem.W.Frag) : Sp := fun vs H Q _ => ∃ v n d b : Int, vs = [.int v, .int n, .int d, .int b] ∧ 0 ≤ b ∧ b ≤ 1000 ∧ Q (.int (n - d + (v - (n - d)) % 2 ^ b.toNat)) H
@[irreducible] def ip_read_short (K : PySem.W.Frag) : Sp := sp_read_short K
theorem op_read_short {K : PySem.W.Frag} {vs : List V} {H : Hp} {Q : VK} {E : XK} (h : sp_read_short K vs H Q E) : ip_read_short K vs H Q E := by
  unfold ip_read_short
  exact h
theorem un_read_short {K : PySem.W.Frag} {vs : List V} {H : Hp} {Q : VK} {E : XK} (h : ip_read_short K vs H Q E) : sp_read_short K vs H Q E := by
  unfold ip_read_short at h
  exact h
theorem ok_read_short (T : Tx P w K mg base) : FnOk P w K mg base CX0 2 T.a_read_short T.d_read_short ["value", "base", "behind", "bits"] (ip_read_short K) := by
  have G_distance := ok_distance T
  refine T.p_read_short.F.ok sc_read_short (fun vs H Q E h => ?_) (fun cdv A outer s H vs Q E hr h => ?_)
  · obtain ⟨v, n, d, b, rfl, h1, h2, q⟩ := un_read_short h
    rfl
  · obtain ⟨v, n, d, b, rfl, h1, h2, q⟩ := un_read_short h
    refine ⟨_, (pss_cons (ps_set (i := 4) sc_read_short.nd rfl (Or.inl rfl) (pe_op op_subM (pv 1) (pv 2))) (pss_one (ps_ret (pe_op op_addM (pv 4) (pe_call G_distance (hr.mono (by decide)) rfl T.p_distance.m T.p_distance.F.kp T.p_distance.b .nil pass0 (pa_cons (pv 4) (pa_cons (pv 0) (pa_cons (pv 3) pa_nil)))))))), ?_⟩
    (repeat walk_at "rd")
    refine op_distance ⟨_, _, _, rfl, h1, h2, ?_⟩
    (repeat walk_at "rd")
    exact q
def sp_u_law_cell (K : PySem.W.Frag) : Sp := fun vs H Q _ => ∃ (a : Addr) (ns : List Int) (k : Int), vs = [.ref a, .int k] ∧ SqL K H a (ns.map V.int) ∧ 0 ≤ k ∧ Q (.int (ns.getD k.toNat 0)) H
@[irreducible] def ip_u_law_cell (K : PySem.W.Frag) : Sp := sp_u_law_cell K
theorem op_u_law_cell {K : PySem.W.Frag} {vs : List V} {H : Hp} {Q : VK} {E : XK} (h : sp_u_law_cell K vs H Q E) : ip_u_law_cell K vs H Q E := by
  unfold ip_u_law_cell
  exact h
theorem un_u_law_cell {K : PySem.W.Frag} {vs : List V} {H : Hp} {Q : VK} {E : XK} (h : ip_u_law_cell K vs H Q E) : sp_u_law_cell K vs H Q E := by
  unfold ip_u_law_cell at h
  exact h
theorem ok_u_law_cell (T : Tx P w K mg base) : FnOk P w K mg base CX0 1 T.a_u_law_cell T.d_u_law_cell ["script", "k"] (ip_u_law_cell K) := by
  refine T.p_u_law_cell.F.ok sc_u_law_cell (fun vs H Q E h => ?_) (fun cdv A outer s H vs Q E hr h => ?_)
  · obtain ⟨a, ns, k, rfl, hS, hk, q⟩ := un_u_law_cell h
    rfl
  · obtain ⟨a, ns, k, rfl, hS, hk, q⟩ := un_u_law_cell h
    refine ⟨_, (pss_cons (ps_ifM (pt_cmpR op_ltM (pv 1) (pe_callB call_lenM (by rfl) T.n_len PySem.boot_len (pa_cons (pv 0) pa_nil)) (nomark _)) (pss_one (ps_ret (pe_callTy call_int1 (by rfl) T.n_int (by decide +kernel) (pa_cons (pe_ix ix_listM (pv 0) (pv 1) (fun _ _ => rfl)) pa_nil)))) pss_nil) (pss_one (ps_ret pe_int))), ?_⟩
    (repeat walk_at "rd")
    refine br_by (fun h => ?_) (fun h => ?_)
    · (repeat walk_at "rd")
      refine rd_ixI hS hk h ?_
      (repeat walk_at "rd")
      exact q
    · have e : ns.getD k.toNat 0 = 0 := by
        rw [List.getD_eq_getElem?_getD, List.getElem?_eq_none (by omega)]
        rfl
      rw [e] at q
      exact q
end
/-! digits within their bases -/
inductive DigOk : List Int → List Int → Prop where
  | nil : DigOk [] []
  | cons {b d : Int} {bs ds : List Int} (h0 : 0 ≤ d) (h1 : d < b) (h : DigOk bs ds) : DigOk (b :: bs) (d :: ds)
theorem DigOk.snoc {b d : Int} {bs ds : List Int} (h : DigOk bs ds) (h0 : 0 ≤ d) (h1 : d < b) : DigOk (bs ++ [b]) (ds ++ [d]) := by
  induction h with
  | nil => exact .cons h0 h1 .nil
  | cons a0 a1 _ ih => exact .cons a0 a1 ih
theorem DigOk.len {bs ds : List Int} (h : DigOk bs ds) : ds.length = bs.length := by
  induction h with
  | nil => rfl
  | cons _ _ _ ih => rw [List.length_cons, List.length_cons, ih]
theorem DigOk.un {b : Int} {bs ds : List Int} (h : DigOk (b :: bs) ds) : ∃ d r, ds = d :: r ∧ (0 ≤ d ∧ d < b) ∧ DigOk bs r := by
  cases h with
  | cons h0 h1 h => exact ⟨_, _, rfl, ⟨h0, h1⟩, h⟩
theorem DigOk.end {ds : List Int} (h : DigOk [] ds) : ds = [] := by
  cases h
  rfl
theorem dig4 {a b c d : Int} {ds : List Int} (h : DigOk [a, b, c, d] ds) : ∃ p q r s, ds = [p, q, r, s] ∧ (0 ≤ p ∧ p < a) ∧ (0 ≤ q ∧ q < b) ∧ (0 ≤ r ∧ r < c) ∧ (0 ≤ s ∧ s < d) := by
  obtain ⟨p, _, rfl, h1, h⟩ := h.un
  obtain ⟨q, _, rfl, h2, h⟩ := h.un
  obtain ⟨r, _, rfl, h3, h⟩ := h.un
  obtain ⟨s, _, rfl, h4, h⟩ := h.un
  have e := h.end
  subst e
  exact ⟨p, q, r, s, rfl, h1, h2, h3, h4⟩
theorem dig_take {bs : List Int} {i : Nat} {b : Int} (h : bs[i]? = some b) : bs.take (i + 1) = bs.take i ++ [b] := by
  rw [List.take_add_one, h]
  rfl
section
variable {P : Program} {w : World} {K : PySem.W.Frag} {mg : Str → Option Value} {base : Heap}
def sp_u_law_digits (K : PySem.W.Frag) : Sp := fun vs H Q _ => ∃ (c : Int) (b : Addr) (bs : List Int), vs = [.int c, .ref b] ∧ SqL K H b (bs.map V.int) ∧ (∀ x ∈ bs, 1 ≤ x ∧ x ≤ 1000000000000) ∧ bs.length ≤ 100 ∧ ∀ ds, DigOk bs ds → NewO (.lst (ds.map V.int)) H Q
structure DigW (H : Hp) (c : Int) (b p : Addr) (bs : List Int) (i : Nat) (σ : L2.St) (H' : Hp) : Prop where
  sm : Same H H'
  dg : ∃ ds, H' p = some (.lst (ds.map V.int)) ∧ DigOk (bs.take i) ds
  fr : ∃ r x y, σ = [some (.int c), some (.ref b), some (.ref p), some (.int r), x, y]
@[irreducible] def ip_u_law_digits (K : PySem.W.Frag) : Sp := sp_u_law_digits K
theorem op_u_law_digits {K : PySem.W.Frag} {vs : List V} {H : Hp} {Q : VK} {E : XK} (h : sp_u_law_digits K vs H Q E) : ip_u_law_digits K vs H Q E := by
  unfold ip_u_law_digits
  exact h
theorem un_u_law_digits {K : PySem.W.Frag} {vs : List V} {H : Hp} {Q : VK} {E : XK} (h : ip_u_law_digits K vs H Q E) : sp_u_law_digits K vs H Q E := by
  unfold ip_u_law_digits at h
  exact h
theorem ok_u_law_digits (T : Tx P w K mg base) : FnOk P w K mg base CX0 1 T.a_u_law_digits T.d_u_law_digits ["cell", "bases"] (ip_u_law_digits K) := by
  refine T.p_u_law_digits.F.ok sc_u_law_digits (fun vs H Q E h => ?_) (fun cdv A outer s H vs Q E hr h => ?_)
  · obtain ⟨c, b, bs, rfl, hS, hb, hl, q⟩ := un_u_law_digits h
    rfl
  · obtain ⟨c, b, bs, rfl, hS, hb, hl, q⟩ := un_u_law_digits h
    refine ⟨_, (pss_cons (ps_set (i := 2) sc_u_law_digits.nd rfl (Or.inl rfl) (pe_lstM pa_nil)) (pss_cons (ps_set (i := 3) sc_u_law_digits.nd rfl (Or.inl rfl) (pe_callTy call_int1 (by rfl) T.n_int (by decide +kernel) (pa_cons (pv 0) pa_nil))) (pss_cons (ps_forL PassesOwn.never rfl (pv 1) (pg_name (i := 4) sc_u_law_digits.nd rfl (Or.inl rfl)) (pss_one (ps_ifM (pt_cmpR op_geM (pv 0) (pe_op op_powM pe_int pe_int) (nomark _)) (pss_cons (ps_expr (pe_app (pv 2) (pe_op op_modM (pe_callTy call_int1 (by rfl) T.n_int (by decide +kernel) (pa_cons (pv 3) pa_nil)) (pv 4)))) (pss_one (ps_set (i := 3) sc_u_law_digits.nd rfl (Or.inl rfl) (pe_op op_fdivWM (pv 3) (pv 4))))) (pss_cons (ps_set (i := 3) sc_u_law_digits.nd rfl (Or.inl rfl) (pe_op op_modM (pe_op op_addM (pe_op op_addM (pe_op op_mulM (pe_callTy call_int1 (by rfl) T.n_int (by decide +kernel) (pa_cons (pv 3) pa_nil)) pe_int) (pe_op op_mulM pe_int (pe_callB call_lenM (by rfl) T.n_len PySem.boot_len (pa_cons (pv 2) pa_nil)))) pe_int) pe_int)) (pss_cons (ps_set (i := 5) sc_u_law_digits.nd rfl (Or.inl rfl) (pe_op op_modM (pe_op op_mulM (pe_callTy call_int1 (by rfl) T.n_int (by decide +kernel) (pa_cons (pv 3) pa_nil)) (pe_callTy call_int1 (by rfl) T.n_int (by decide +kernel) (pa_cons (pv 3) pa_nil))) pe_int)) (pss_one (ps_expr (pe_app (pv 2) (pe_op op_modM (pe_op op_fdivM (pe_callTy call_int1 (by rfl) T.n_int (by decide +kernel) (pa_cons (pv 5) pa_nil)) pe_int) (pv 4)))))))))) (pss_one (ps_ret (pv 2)))))), ?_⟩
    refine rd_lst ?_
    (repeat walk_at "rd")
    intro p H1 np s1 e1
    (repeat walk_at "rd")
    refine rd_forL ?_
    (repeat walk_at "rd")
    refine ⟨b, bs.map V.int, fun i σ H' => Stop (DigW H c b p bs i σ H'), rfl, (by walk_at "sq"), .a ⟨s1, ⟨[], e1, .nil⟩, _, _, _, rfl⟩, fun i σ' H' _ w => w.un.sm.seq hS, fun i y σ' H' hi w => ?_, fun σ' H' w => ?_⟩
    · obtain ⟨sm, ⟨ds, ed, hd⟩, r, x, z, rfl⟩ := w.un
      rw [List.getElem?_map] at hi
      obtain ⟨ba, hba, rfl⟩ := Option.map_eq_some_iff.mp hi
      have hb1 := hb ba (List.mem_of_getElem? hba)
      have hi2 : i < bs.length := (List.getElem?_eq_some_iff.mp hba).1
      have hdl : ds.length ≤ 100 := by
        rw [hd.len, List.length_take]
        omega
      (repeat walk_at "rd")
      refine br_by (fun h => ?_) (fun h => ?_)
      · (repeat walk_at "rd")
        refine rd_app ed (by rw [List.length_map]; omega) ?_
        (repeat walk_at "rd")
        refine ⟨wide_div (b := 64) (by omega) (by omega) (by decide) (by decide), ?_⟩
        refine .a ⟨same_mut sm np, ⟨ds ++ [r % ba], ?_, ?_⟩, _, _, _, rfl⟩
        · rw [upd_same, List.map_append]
          rfl
        · rw [dig_take hba]
          exact hd.snoc (Int.emod_nonneg _ (by omega)) (Int.emod_lt_of_pos _ (by omega))
      · (repeat walk_at "rd")
        refine rd_app ed (by rw [List.length_map]; omega) ?_
        refine .a ⟨same_mut sm np, ⟨ds ++ [?w], ?h1, ?h2⟩, ?r, ?x, ?y, ?h3⟩
        case h3 => rfl
        case h1 =>
          rw [upd_same, List.map_append]
          rfl
        case h2 =>
          rw [dig_take hba]
          exact hd.snoc (Int.emod_nonneg _ (by omega)) (Int.emod_lt_of_pos _ (by omega))
    · obtain ⟨sm, ⟨ds, ed, hd⟩, r, x, z, rfl⟩ := w.un
      (repeat walk_at "rd")
      rw [List.length_map, List.take_length] at hd
      exact q ds hd p H' np sm ed
def sp_u_law_many (K : PySem.W.Frag) : Sp := fun vs H Q _ => ∃ (a : Addr) (ns : List Int) (x y : Int), vs = [.ref a, .int x, .int y] ∧ SqL K H a (ns.map V.int) ∧ ∀ z : Int, z = x ∨ z = y → Q (.int z) H
@[irreducible] def ip_u_law_many (K : PySem.W.Frag) : Sp := sp_u_law_many K
theorem op_u_law_many {K : PySem.W.Frag} {vs : List V} {H : Hp} {Q : VK} {E : XK} (h : sp_u_law_many K vs H Q E) : ip_u_law_many K vs H Q E := by
  unfold ip_u_law_many
  exact h
theorem un_u_law_many {K : PySem.W.Frag} {vs : List V} {H : Hp} {Q : VK} {E : XK} (h : ip_u_law_many K vs H Q E) : sp_u_law_many K vs H Q E := by
  unfold ip_u_law_many at h
  exact h
theorem ok_u_law_many (T : Tx P w K mg base) : FnOk P w K mg base CX0 1 T.a_u_law_many T.d_u_law_many ["script", "few", "many"] (ip_u_law_many K) := by
  refine T.p_u_law_many.F.ok sc_u_law_many (fun vs H Q E h => ?_) (fun cdv A outer s H vs Q E hr h => ?_)
  · obtain ⟨a, ns, x, y, rfl, hS, q⟩ := un_u_law_many h
    rfl
  · obtain ⟨a, ns, x, y, rfl, hS, q⟩ := un_u_law_many h
    refine ⟨_, (pss_cons (ps_ifM (PW.pt (pw_andM (pt_cmpR op_gtM (pe_callB call_lenM (by rfl) T.n_len PySem.boot_len (pa_cons (pv 0) pa_nil)) pe_int (nomark _)) (pw_and1 (pt_cmpR op_eq (pe_op op_modM (pe_op op_fdivM (pe_callTy call_int1 (by rfl) T.n_int (by decide +kernel) (pa_cons (pe_ix ix_listM (pv 0) pe_int (fun _ _ => rfl)) pa_nil)) pe_int) pe_int) pe_int (nomark _))))) (pss_one (ps_ret (pv 2))) pss_nil) (pss_one (ps_ret (pv 1)))), ?_⟩
    (repeat walk_at "rd")
    refine br_by (fun h => ?_) (fun h => ?_)
    · (repeat walk_at "rd")
      refine rd_ixI hS (by decide) (by omega) ?_
      (repeat walk_at "rd")
      refine br_eby (fun h => ?_) (fun h => ?_)
      · (repeat walk_at "rd")
        exact q _ (.inr rfl)
      · (repeat walk_at "rd")
        exact q _ (.inl rfl)
    · (repeat walk_at "rd")
      exact q _ (.inl rfl)
def sp_short_of (K : PySem.W.Frag) : Sp := fun vs H Q _ => ∃ n b : Int, vs = [.int n, .int b] ∧ 0 ≤ b ∧ b ≤ 1000 ∧ Q (.int (n % 2 ^ b.toNat)) H
@[irreducible] def ip_short_of (K : PySem.W.Frag) : Sp := sp_short_of K
theorem op_short_of {K : PySem.W.Frag} {vs : List V} {H : Hp} {Q : VK} {E : XK} (h : sp_short_of K vs H Q E) : ip_short_of K vs H Q E := by
  unfold ip_short_of
  exact h
theorem un_short_of {K : PySem.W.Frag} {vs : List V} {H : Hp} {Q : VK} {E : XK} (h : ip_short_of K vs H Q E) : sp_short_of K vs H Q E := by
  unfold ip_short_of at h
  exact h
theorem ok_short_of (T : Tx P w K mg base) : FnOk P w K mg base CX0 1 T.a_short_of T.d_short_of ["count", "bits"] (ip_short_of K) := by
  refine T.p_short_of.F.ok sc_short_of (fun vs H Q E h => ?_) (fun cdv A outer s H vs Q E hr h => ?_)
  · obtain ⟨n, b, rfl, h1, h2, q⟩ := un_short_of h
    rfl
  · obtain ⟨n, b, rfl, h1, h2, q⟩ := un_short_of h
    refine ⟨_, (pss_one (ps_ret (pe_op op_modM (pv 0) (pe_op op_shl1M pe_int (pv 1))))), ?_⟩
    (repeat walk_at "rd")
    refine ⟨two_pos _, ?_⟩
    exact q
def sp_window (K : PySem.W.Frag) : Sp := fun vs H Q _ => ∃ b : Int, vs = [.int b] ∧ 1 ≤ b ∧ b ≤ 1000 ∧ Q (.int (2 ^ (b - 1).toNat)) H
@[irreducible] def ip_window (K : PySem.W.Frag) : Sp := sp_window K
theorem op_window {K : PySem.W.Frag} {vs : List V} {H : Hp} {Q : VK} {E : XK} (h : sp_window K vs H Q E) : ip_window K vs H Q E := by
  unfold ip_window
  exact h
theorem un_window {K : PySem.W.Frag} {vs : List V} {H : Hp} {Q : VK} {E : XK} (h : ip_window K vs H Q E) : sp_window K vs H Q E := by
  unfold ip_window at h
  exact h
theorem ok_window (T : Tx P w K mg base) : FnOk P w K mg base CX0 2 T.a_window T.d_window ["bits"] (ip_window K) := by
  have G_window_size := ok_window_size T
  refine T.p_window.F.ok sc_window (fun vs H Q E h => ?_) (fun cdv A outer s H vs Q E hr h => ?_)
  · obtain ⟨b, rfl, h1, h2, q⟩ := un_window h
    rfl
  · obtain ⟨b, rfl, h1, h2, q⟩ := un_window h
    refine ⟨_, (pss_one (ps_ret (pe_call G_window_size (hr.mono (by decide)) rfl T.p_window_size.m T.p_window_size.F.kp T.p_window_size.b .nil pass0 (pa_cons (pv 0) pa_nil)))), ?_⟩
    (repeat walk_at "rd")
    refine op_window_size ⟨_, rfl, h1, h2, ?_⟩
    exact q
/-- the reading of a short count, as a value -/
def nearV (e s m w : Int) : V := if e - w + (s - (e - w)) % m < 0 then .non else .int (e - w + (s - (e - w)) % m)
def sp_count_near (K : PySem.W.Frag) : Sp := fun vs H Q _ => ∃ e s b : Int, vs = [.int e, .int s, .int b] ∧ 1 ≤ b ∧ b ≤ 1000 ∧ Q (nearV e s (2 ^ b.toNat) (2 ^ (b - 1).toNat)) H
@[irreducible] def ip_count_near (K : PySem.W.Frag) : Sp := sp_count_near K
theorem op_count_near {K : PySem.W.Frag} {vs : List V} {H : Hp} {Q : VK} {E : XK} (h : sp_count_near K vs H Q E) : ip_count_near K vs H Q E := by
  unfold ip_count_near
  exact h
theorem un_count_near {K : PySem.W.Frag} {vs : List V} {H : Hp} {Q : VK} {E : XK} (h : ip_count_near K vs H Q E) : sp_count_near K vs H Q E := by
  unfold ip_count_near at h
  exact h
theorem ok_count_near (T : Tx P w K mg base) : FnOk P w K mg base CX0 3 T.a_count_near T.d_count_near ["expected", "short", "bits"] (ip_count_near K) := by
  have G_read_short := ok_read_short T
  have G_window := ok_window T
  refine T.p_count_near.F.ok sc_count_near (fun vs H Q E h => ?_) (fun cdv A outer s H vs Q E hr h => ?_)
  · obtain ⟨e, s', b, rfl, h1, h2, q⟩ := un_count_near h
    rfl
  · obtain ⟨e, s', b, rfl, h1, h2, q⟩ := un_count_near h
    refine ⟨_, (pss_cons (ps_set (i := 3) sc_count_near.nd rfl (Or.inl rfl) (pe_call G_read_short (hr.mono (by decide)) rfl T.p_read_short.m T.p_read_short.F.kp T.p_read_short.b .nil pass0 (pa_cons (pv 1) (pa_cons (pv 0) (pa_cons (pe_call G_window (hr.mono (by decide)) rfl T.p_window.m T.p_window.F.kp T.p_window.b .nil pass0 (pa_cons (pv 2) pa_nil)) (pa_cons (pv 2) pa_nil)))))) (pss_one (ps_ret (pe_ifM (pt_cmpR op_ltM (pv 3) pe_int (nomark _)) pe_non (pv 3))))), ?_⟩
    (repeat walk_at "rd")
    refine op_window ⟨_, rfl, h1, h2, ?_⟩
    (repeat walk_at "rd")
    refine op_read_short ⟨_, _, _, _, rfl, by omega, h2, ?_⟩
    (repeat walk_at "rd")
    unfold nearV at q
    refine br_by (fun h => ?_) (fun h => ?_)
    · (repeat walk_at "rd")
      rw [if_pos h] at q
      exact q
    · (repeat walk_at "rd")
      rw [if_neg h] at q
      exact q
end
/-! packets by their counts: a dict of whole numbers to lists of whole numbers -/
abbrev Pk := List (Int × Addr × List Int)
abbrev KX := List (Int × List Int)
def pkK (pk : Pk) : List (Key × V) := pk.map fun x => (.inl x.1, .ref x.2.1)
def pkX (pk : Pk) : KX := pk.map fun x => (x.1, x.2.2)
def PkAt (B : Hp) (pk : Pk) : Prop := ∀ x ∈ pk, B x.2.1 = some (.lst (x.2.2.map V.int))
theorem PkAt.mono {B B' : Hp} {pk : Pk} (h : PkAt B pk) (s : Same B B') : PkAt B' pk := fun x hx => s _ _ (h x hx)
theorem pkK_keys (pk : Pk) : (pkK pk).map Prod.fst = (pk.map Prod.fst).map Sum.inl := by
  unfold pkK
  rw [List.map_map, List.map_map]
  rfl
theorem pkX_keys (pk : Pk) : (pkX pk).map Prod.fst = pk.map Prod.fst := by
  unfold pkX
  rw [List.map_map]
  rfl
theorem pk_val {pk : Pk} (nd : (pk.map Prod.fst).Nodup) {x : Int × Addr × List Int} (h : x ∈ pk) : valV (pkK pk) (.inl x.1) = some (.ref x.2.1) := by
  induction pk with
  | nil => cases h
  | cons y r ih =>
    have nd2 := List.nodup_cons.mp nd
    unfold pkK
    rw [List.map_cons]
    rcases List.mem_cons.mp h with h | h
    · subst h
      exact valV_pos rfl
    · rw [valV_neg (fun e => nd2.1 (by
        have e2 : y.1 = x.1 := Sum.inl.inj e
        rw [e2]
        exact List.mem_map.mpr ⟨x, h, rfl⟩))]
      exact ih nd2.2 h
theorem pk_none {pk : Pk} {n : Int} (h : n ∉ pk.map Prod.fst) : valV (pkK pk) (.inl n) = none := by
  induction pk with
  | nil => rfl
  | cons y r ih =>
    unfold pkK
    rw [List.map_cons]
    rw [List.map_cons] at h
    rw [valV_neg (fun e => h (by
      have e2 : y.1 = n := Sum.inl.inj e
      rw [← e2]
      exact .head _))]
    exact ih fun z => h (.tail _ z)
theorem pk_is (pk : Pk) (n : Int) : (valV (pkK pk) (.inl n)).isSome = decide (n ∈ pk.map Prod.fst) := by
  induction pk with
  | nil => rfl
  | cons y r ih =>
    unfold pkK
    rw [List.map_cons, List.map_cons]
    by_cases e : y.1 = n
    · rw [valV_pos (congrArg Sum.inl e), e]
      exact (decide_eq_true (.head _)).symm
    · rw [valV_neg (fun z => e (Sum.inl.inj z))]
      refine ih.trans ?_
      refine decide_eq_decide.mpr ⟨fun z => .tail _ z, fun z => ?_⟩
      rcases List.mem_cons.mp z with z | z
      · exact absurd z.symm e
      · exact z
theorem pk_put {pk : Pk} {n : Int} {q : Addr} {x : List Int} (h : n ∉ pk.map Prod.fst) : putK (pkK pk) (.inl n) (.ref q) = pkK (pk ++ [(n, q, x)]) := by
  rw [putK_new _ (pk_none h)]
  unfold pkK
  rw [List.map_append]
  rfl
theorem pk_drop (pk : Pk) (n : Int) : dropK (pkK pk) (.inl n) = pkK (pk.filter fun x => !decide (x.1 = n)) := by
  unfold dropK pkK
  rw [List.filter_map]
  congr 1
  refine List.filter_congr fun x _ => ?_
  show decide ((Sum.inl x.1 : Key) ≠ Sum.inl n) = _
  by_cases h : x.1 = n
  · subst h
    simp
  · have e : (Sum.inl x.1 : Key) ≠ Sum.inl n := fun e => h (Sum.inl.inj e)
    simp [h]
theorem PkAt.filter {B : Hp} {pk : Pk} (h : PkAt B pk) (f : Int × Addr × List Int → Bool) : PkAt B (pk.filter f) := fun x hx => h x (List.mem_filter.mp hx).1
theorem PkAt.snoc {B : Hp} {pk : Pk} {n : Int} {q : Addr} {x : List Int} (h : PkAt B pk) (e : B q = some (.lst (x.map V.int))) : PkAt B (pk ++ [(n, q, x)]) := fun y hy => by
  rcases List.mem_append.mp hy with hy | hy
  · exact h y hy
  · rw [List.mem_singleton.mp hy]
    exact e
/-! lists of pairs (count, list), all new -/
inductive IOs (H : Hp) : List Addr → List Addr → KX → Prop
  | nil : IOs H [] [] []
  | cons {t q : Addr} {ts qs : List Addr} {c : Int} {x : List Int} {r : KX} (h : H t = some (.tup [.int c, .ref q])) (h2 : H q = some (.lst (x.map V.int))) (tl : IOs H ts qs r) : IOs H (t :: ts) (q :: qs) ((c, x) :: r)
section
variable {H H' : Hp} {ts qs : List Addr} {k : KX} {t q : Addr} {c : Int} {x : List Int}
theorem IOs.mono (h : IOs H ts qs k) (s : Same H H') : IOs H' ts qs k := by
  induction h with
  | nil => exact .nil
  | cons h h2 _ ih => exact .cons (s _ _ h) (s _ _ h2) ih
theorem IOs.stay (h : IOs H ts qs k) (s : ∀ p, p ∈ ts ∨ p ∈ qs → H' p = H p) : IOs H' ts qs k := by
  induction h with
  | nil => exact .nil
  | cons h h2 _ ih => exact .cons ((s _ (.inl (.head _))).trans h) ((s _ (.inr (.head _))).trans h2) (ih fun p hp => s p (hp.elim (fun z => .inl (.tail _ z)) (fun z => .inr (.tail _ z))))
theorem IOs.snoc (h : IOs H ts qs k) (e : H t = some (.tup [.int c, .ref q])) (e2 : H q = some (.lst (x.map V.int))) : IOs H (ts ++ [t]) (qs ++ [q]) (k ++ [(c, x)]) := by
  induction h with
  | nil => exact .cons e e2 .nil
  | cons h h2 _ ih => exact .cons h h2 ih
theorem IOs.len (h : IOs H ts qs k) : ts.length = k.length ∧ qs.length = k.length := by
  induction h with
  | nil => exact ⟨rfl, rfl⟩
  | cons _ _ _ ih => exact ⟨by rw [List.length_cons, List.length_cons, ih.1], by rw [List.length_cons, List.length_cons, ih.2]⟩
theorem IOs.memt (h : IOs H ts qs k) (ht : t ∈ ts) : ∃ c q, H t = some (.tup [.int c, .ref q]) := by
  induction h with
  | nil => cases ht
  | cons h _ _ ih =>
    rcases List.mem_cons.mp ht with e | z
    · rw [e]
      exact ⟨_, _, h⟩
    · exact ih z
theorem IOs.memq (h : IOs H ts qs k) (hq : q ∈ qs) : ∃ x, x ∈ k.map Prod.snd ∧ H q = some (.lst (x.map V.int)) := by
  induction h with
  | nil => cases hq
  | cons _ h _ ih =>
    rcases List.mem_cons.mp hq with e | z
    · rw [e]
      exact ⟨_, .head _, h⟩
    · obtain ⟨x, hx, h2⟩ := ih z
      exact ⟨x, .tail _ hx, h2⟩
theorem IOs.dps {K : PySem.W.Frag} (h : IOs H ts qs k) : DpAll K H (ts.map V.ref) (k.map fun z => PyData.tuple [.int z.1, .list (z.2.map PyData.int)]) := by
  induction h with
  | nil => exact .nil
  | cons h h2 _ ih => exact .cons (.tup (st_of h) (.cons (.int _) (.cons (dp_ints (sq_of h2)) .nil))) ih
end
def kxD (k : KX) : PyData := .list (k.map fun z => PyData.tuple [.int z.1, .list (z.2.map PyData.int)])
theorem sh_kx {n : Nat} (k : KX) : Sh (n + 3) (kxD k) := sh_lst (sh_map (fun z => sh_tup (sh_cons sh_int (sh_cons (sh_lst (sh_ints z.2)) sh_nil))) k)
theorem eqv_kx_nil (k : KX) : PyData.eqv (kxD k) (.list []) = decide (k = []) := by
  cases k with
  | nil => exact (decide_eq_true rfl).symm
  | cons x r => exact (decide_eq_false fun z => (nomatch z)).symm
structure IO (H1 : Hp) (D : Addr) (ts qs : List Addr) (k : KX) (H' : Hp) : Prop where
  sm : Same H1 H'
  at' : H' D = some (.lst (ts.map V.ref))
  ls : IOs H' ts qs k
  frt : ∀ t ∈ ts, H1 t = none
  frq : ∀ q ∈ qs, H1 q = none ∧ q ≠ D
  nd : qs.Nodup
/-- all of a list of new pairs stays -/
theorem Own.ioR {S B0 B H H' : Hp} {as : List Addr} {l : List (Addr × HO)} {D : Addr} {ts qs : List Addr} {k : KX} (w : Own S B0 as B l H) (hD : H D = none) (c : IO H D ts qs k H') :
    ∃ B', Same B B' ∧ B' D = some (.lst (ts.map V.ref)) ∧ IOs B' ts qs k ∧ Own S B0 as B' l H' := by
  have hn : ∀ p ∈ D :: (ts ++ qs), H p = none ∧ H' p ≠ none := fun p hp => by
    rcases List.mem_cons.mp hp with h | h
    · rw [h]
      exact ⟨hD, by rw [c.at']; exact fun z => (nomatch z)⟩
    · rcases List.mem_append.mp h with h | h
      · obtain ⟨_, _, hx⟩ := c.ls.memt h
        exact ⟨c.frt p h, by rw [hx]; exact fun z => (nomatch z)⟩
      · obtain ⟨_, _, hx⟩ := c.ls.memq h
        exact ⟨(c.frq p h).1, by rw [hx]; exact fun z => (nomatch z)⟩
  obtain ⟨B', s, e, w2⟩ := (w.more c.sm).adopt2 (D :: (ts ++ qs)) fun p hp => by
    refine ⟨(w.frS (hn p hp).1).1, (hn p hp).2, fun h => ?_⟩
    obtain ⟨o, h⟩ := fst_mem h
    exact w.notin (hn p hp).1 h
  exact ⟨B', s, (e D (.head _)).trans c.at', c.ls.stay fun p hp => e p (.tail _ (List.mem_append.mpr hp)), w2⟩
theorem IO.dp {K : PySem.W.Frag} {H1 H' : Hp} {D : Addr} {ts qs : List Addr} {k : KX} (w : IO H1 D ts qs k H') : Dp K H' (.ref D) (kxD k) := .lst (sq_of w.at') w.ls.dps
theorem IO.next {H1 H' H2 H3 : Hp} {D p t : Addr} {ts qs : List Addr} {k : KX} {c : Int} {x : List Int} (w : IO H1 D ts qs k H') (hD : H1 D = none) (np : H' p = none) (s : Same H' H2) (e : H2 p = some (.lst (x.map V.int))) (nt : H2 t = none) (s2 : Same H2 H3) (e2 : H3 t = some (.tup [.int c, .ref p])) :
    IO H1 D (ts ++ [t]) (qs ++ [p]) (k ++ [(c, x)]) (upd H3 D (.lst (ts.map V.ref ++ [.ref t]))) := by
  have hpD : p ≠ D := fun z => by
    rw [z, w.at'] at np
    cases np
  have hD2 := s2 _ _ (s _ _ w.at')
  have htD : t ≠ D := fun z => by
    rw [z, hD2] at e2
    cases e2
  have hin : ∀ q ∈ qs, q ≠ p := fun q hq z => by
    obtain ⟨y, _, hy⟩ := w.ls.memq hq
    rw [z, np] at hy
    cases hy
  refine ⟨same_mut (w.sm.trans (s.trans s2)) hD, ?_, ?_, fun y hy => ?_, fun q hq => ?_, ?_⟩
  · rw [upd_same, List.map_append]
    rfl
  · refine IOs.snoc ((w.ls.mono (s.trans s2)).stay fun y hy => upd_ne ?_) ?_ ?_
    · rcases hy with hy | hy
      · obtain ⟨c', q', h'⟩ := w.ls.memt hy
        exact fun z => by
          rw [z, w.at'] at h'
          cases h'
      · exact (w.frq y hy).2
    · rw [upd_ne htD]
      exact e2
    · rw [upd_ne hpD]
      exact s2 _ _ e
  · rcases List.mem_append.mp hy with h | h
    · exact w.frt y h
    · rw [List.mem_singleton.mp h]
      exact same_none (w.sm.trans s) nt
  · rcases List.mem_append.mp hq with h | h
    · exact w.frq q h
    · rw [List.mem_singleton.mp h]
      exact ⟨same_none w.sm np, hpD⟩
  · refine List.nodup_append.mpr ⟨w.nd, List.nodup_cons.mpr ⟨fun h => (nomatch h), List.nodup_nil⟩, fun q hq r hr => ?_⟩
    rw [List.mem_singleton.mp hr]
    exact hin q hq
/-- the pairs by ascending counts -/
def AscX (k : KX) : Prop := k.Pairwise fun a b => a.1 ≤ b.1
/-- pairs that stand by ascending counts are their own order -/
theorem asc_own {k k2 : KX} (hp : k.Perm k2) (ha : AscX k) (h2 : (k2.map Prod.fst).Pairwise (· < ·)) : k = k2 := by
  have hnd : (k.map Prod.fst).Nodup := (hp.map _).nodup_iff.mpr (h2.imp fun z => Int.ne_of_lt z)
  have ha2 : k.Pairwise fun a b => a.1 < b.1 := by
    have hne := List.pairwise_map.mp hnd
    exact (ha.and hne).imp fun z => by
      have h1 := z.1
      have h2 : ¬ _ = _ := z.2
      omega
  have hb2 : k2.Pairwise fun a b => a.1 < b.1 := List.pairwise_map.mp h2
  refine List.Perm.eq_of_pairwise (le := fun a b => a.1 < b.1) (fun a b _ _ h h' => by omega) ha2 hb2 hp
/-- [(n, a new list) for n in ns] -/
theorem wl_io {K : PySem.W.Frag} {j : Nat} {te : TE} {σ : L2.St} {H1 : Hp} {Q : VK} {a : Addr} (ns : List Int) (P : Int → List Int) (hx : SqL K H1 a (ns.map V.int)) (hn : ns.length ≤ 100000)
    (ht : ∀ n, n ∈ ns → ∀ (H' : Hp) (R : VK), Same H1 H' → (∀ (q : Addr) (H2 : Hp) (t : Addr) (H3 : Hp), H' q = none → Same H' H2 → H2 q = some (.lst ((P n).map V.int)) → H2 t = none → Same H2 H3 → H3 t = some (.tup [.int n, .ref q]) → R (.ref t) H3) → te ((wipe σ [j]).set j (some (.int n))) H' R)
    (hq : ∀ D ts qs H', H1 D = none → IO H1 D ts qs (ns.map fun c => (c, P c)) H' → Q (.ref D) H') : LcWP (Itl K a) (gName j) tYes te [j] σ Q H1 := by
  refine wl_list (ns.map V.int) (by rw [List.length_map]; exact hn) fun D hD => ⟨fun i acc H' => ∃ ts qs, acc = ts.map V.ref ∧ IO H1 D ts qs ((ns.take i).map fun c => (c, P c)) H', ⟨[], [], rfl, same_upd hD, upd_same, .nil, fun t ht => (nomatch ht), fun t ht => (nomatch ht), List.nodup_nil⟩, fun i acc H' _ _ _ p => ?_, fun i acc y H' hi ha h2 p => ?_, fun acc H' ha h2 p => ?_⟩
  · obtain ⟨ts, qs, rfl, p⟩ := p
    exact p.sm.seq hx
  · obtain ⟨ts, qs, rfl, p⟩ := p
    rw [List.getElem?_map] at hi
    obtain ⟨n, hn2, rfl⟩ := Option.map_eq_some_iff.mp hi
    show _ ∧ _
    refine ⟨wipe_set rfl, ?_⟩
    show Br true _ _
    refine br_T (ht n (List.mem_of_getElem? hn2) H' _ p.sm fun q H2 t H3 nq s2 eq nt s3 et => ⟨s3 _ _ (s2 _ _ h2), ts ++ [t], qs ++ [q], by rw [List.map_append]; rfl, ?_⟩)
    rw [take_snoc hn2, List.map_append]
    exact p.next hD nq s2 eq nt s3 et
  · obtain ⟨ts, qs, rfl, p⟩ := p
    rw [List.length_map, List.take_length] at p
    exact hq D ts qs H' hD p
section
variable {P : Program} {w : World} {K : PySem.W.Frag} {mg : Str → Option Value} {base : Heap}
def sp_u_in_order (K : PySem.W.Frag) : Sp := fun vs H Q _ => ∃ (d : Addr) (pk : Pk), vs = [.ref d] ∧ H d = some (.dK (pkK pk)) ∧ PkAt H pk ∧ (pk.map Prod.fst).Nodup ∧ pk.length ≤ 1000 ∧
  ∀ k : KX, k.Perm (pkX pk) → AscX k → ∀ (D : Addr) (ts qs : List Addr) (H' : Hp), H D = none → IO H D ts qs k H' → Q (.ref D) H'
theorem sort_kx {pk : Pk} {ys : List Int} (nd : (pk.map Prod.fst).Nodup) (hp : ys.Perm (pk.map Prod.fst)) (ho : ys.Pairwise (· ≤ ·)) : ∃ k : KX, k.Perm (pkX pk) ∧ AscX k ∧ k.map Prod.fst = ys := by
  have e1 : ∀ {pk : Pk} (nd : (pk.map Prod.fst).Nodup), ∀ x ∈ pkX pk, ((pkX pk).lookup x.1).getD [] = x.2 := by
    intro pk
    induction pk with
    | nil => exact fun _ x hx => (nomatch hx)
    | cons y r ih =>
      intro nd x hx
      have nd2 := List.nodup_cons.mp nd
      have hx' : x ∈ (y.1, y.2.2) :: pkX r := hx
      show (((y.1, y.2.2) :: pkX r).lookup x.1).getD [] = _
      rcases List.mem_cons.mp hx' with h | h
      · subst h
        rw [List.lookup_cons, beq_self_eq_true]
        rfl
      · have hne : ¬ x.1 = y.1 := fun e => nd2.1 (by
          rw [← e]
          have hm : x.1 ∈ (pkX r).map Prod.fst := List.mem_map.mpr ⟨x, h, rfl⟩
          rw [pkX_keys] at hm
          exact hm)
        rw [List.lookup_cons, beq_eq_false_iff_ne.mpr hne]
        exact ih nd2.2 x h
  refine ⟨ys.map fun n => (n, ((pkX pk).lookup n).getD []), ?_, ?_, ?_⟩
  · have h2 : ys.Perm ((pkX pk).map Prod.fst) := by rw [pkX_keys]; exact hp
    refine (h2.map _).trans ?_
    rw [List.map_map]
    refine List.Perm.of_eq ?_
    conv => rhs; rw [← List.map_id (pkX pk)]
    exact List.map_congr_left fun x hx => by
      show (x.1, _) = x
      rw [e1 nd x hx]
  · exact List.pairwise_map.mpr ho
  · rw [List.map_map]
    exact List.map_id ys
@[irreducible] def ip_u_in_order (K : PySem.W.Frag) : Sp := sp_u_in_order K
theorem op_u_in_order {K : PySem.W.Frag} {vs : List V} {H : Hp} {Q : VK} {E : XK} (h : sp_u_in_order K vs H Q E) : ip_u_in_order K vs H Q E := by
  unfold ip_u_in_order
  exact h
theorem un_u_in_order {K : PySem.W.Frag} {vs : List V} {H : Hp} {Q : VK} {E : XK} (h : ip_u_in_order K vs H Q E) : sp_u_in_order K vs H Q E := by
  unfold ip_u_in_order at h
  exact h
theorem ok_u_in_order (T : Tx P w K mg base) : FnOk P w K mg base CX0 1 T.a_u_in_order T.d_u_in_order ["packets"] (ip_u_in_order K) := by
  refine T.p_u_in_order.F.ok sc_u_in_order (fun vs H Q E h => ?_) (fun cdv A outer s H vs Q E hr h => ?_)
  · obtain ⟨d, pk, rfl, hd, hp, nd, hl, q⟩ := un_u_in_order h
    rfl
  · obtain ⟨d, pk, rfl, hd, hp, nd, hl, q⟩ := un_u_in_order h
    refine ⟨_, (pss_one (ps_ret (pe_lcW (own := [("count", 1)]) (g := (gName 1)) [1] im_list rfl sc_u_in_order.nd (pi_list (pe_c (pe_callB (call_sortDBM rfl) (by rfl) T.n_sorted (by decide +kernel) (pa_cons (pv 0) pa_nil)))) (blkOk_by (own := [("count", 1)]) (N := ["packets", "count"]) (sc := defScope S_u_in_order) (by decide +kernel)) (fun _ _ _ _ _ => (pg_name (i := 1) sc_u_in_order.nd rfl (Or.inl rfl))) (fun _ _ _ _ _ => pts_nil) (fun _ _ _ _ _ => (pe_tupM (pa_cons (pv 1) (pa_cons (pe_callTy (call_listK (K := K) rfl) (by rfl) T.n_list (by decide +kernel) (pa_cons (pe_dgetM (hu_of hr) (pv 0) (pv 1)) pa_nil)) pa_nil))))))), ?_⟩
    refine rd_lcW ?_
    (repeat walk_at "rd")
    refine rd_sortDB hd (pkK_keys pk) (fun ys hpm ho => ?_)
    obtain ⟨k, hk, hk2, rfl⟩ := sort_kx nd hpm ho
    intro p H1 n1 s1 e1
    (repeat walk_at "rd")
    refine ⟨⟨_, sq_of e1⟩, ?_⟩
    have hkl : k.length = pk.length := by
      have := hk.length_eq
      rw [this]
      exact List.length_map ..
    refine wl_list ((k.map Prod.fst).map V.int) (by rw [List.length_map, List.length_map]; omega) fun D hD => ⟨fun i acc H' => ∃ ts qs, acc = ts.map V.ref ∧ IO H1 D ts qs (k.take i) H', ⟨[], [], rfl, same_upd hD, upd_same, .nil, fun t ht => (nomatch ht), fun t ht => (nomatch ht), List.nodup_nil⟩, fun i acc H' _ _ _ p => ?_, fun i acc y H' hi ha h2 p => ?_, fun acc H' ha h2 p => ?_⟩
    · obtain ⟨ts, qs, rfl, p⟩ := p
      exact sq_of (p.sm _ _ e1)
    · obtain ⟨ts, qs, rfl, p⟩ := p
      rw [List.getElem?_map, List.getElem?_map] at hi
      obtain ⟨n, hn, rfl⟩ := Option.map_eq_some_iff.mp hi
      obtain ⟨⟨n', x⟩, hk3, rfl⟩ := Option.map_eq_some_iff.mp hn
      have hm := hk.mem_iff.mp (List.mem_of_getElem? hk3)
      obtain ⟨z, hz, ez⟩ := List.mem_map.mp hm
      have ez1 : z.1 = n' := congrArg Prod.fst ez
      have ez2 : z.2.2 = x := congrArg Prod.snd ez
      have hz2 := hp z hz
      have hv := pk_val nd hz
      rw [ez1] at hv
      rw [ez2] at hz2
      have s01 := s1.trans p.sm
      show _ ∧ _
      refine ⟨wipe_set rfl, ?_⟩
      (repeat walk_at "rd")
      refine rd_dget (s01 _ _ hd) hv ?_
      (repeat walk_at "rd")
      refine rd_list (sq_of (s01 _ _ hz2)) ?_
      intro q' H2 n2 s2 e2
      (repeat walk_at "rd")
      intro t H3 n3 s3 e3
      refine ⟨s3 _ _ (s2 _ _ h2), ts ++ [t], qs ++ [q'], by rw [List.map_append]; rfl, ?_⟩
      rw [take_snoc hk3]
      exact p.next hD n2 s2 e2 n3 s3 e3
    · obtain ⟨ts, qs, rfl, p⟩ := p
      rw [List.length_map, List.length_map, List.take_length] at p
      exact q k hk hk2 D ts qs H' (same_none s1 hD) ⟨s1.trans p.sm, p.at', p.ls, fun t ht => same_none s1 (p.frt t ht), fun q hq => ⟨same_none s1 (p.frq q hq).1, (p.frq q hq).2⟩, p.nd⟩
end
structure UsS where
  bits : Int
  nx : Int
  pk : Pk
def UsS.fs (s : UsS) (d : Addr) : List (Str × V) := [("_bits", .int s.bits), ("_next", .int s.nx), ("_packets", .ref d)]
abbrev ucells (C p dx d : Addr) (s : UsS) : List (Addr × HO) := [(p, .ins C dx (s.fs d)), (d, .dK (pkK s.pk))]
structure UsOk (s : UsS) : Prop where
  b : 4 ≤ s.bits ∧ s.bits ≤ 7
  asc : (s.pk.map Prod.fst).Pairwise (· < ·)
  lt : ∀ n ∈ s.pk.map Prod.fst, 0 ≤ n ∧ n < s.nx
  n0 : 0 ≤ s.nx
theorem UsOk.nd {s : UsS} (h : UsOk s) : (s.pk.map Prod.fst).Nodup := h.asc.imp fun z => Int.ne_of_lt z
theorem UsOk.fresh {s : UsS} (h : UsOk s) : s.nx ∉ s.pk.map Prod.fst := fun z => by
  have := (h.lt _ z).2
  omega
def UsS.base (s : UsS) : Int := match s.pk with
  | [] => s.nx
  | x :: _ => x.1
theorem UsOk.base_eq {s : UsS} (h : UsOk s) : mnL s.nx (s.pk.map Prod.fst) = s.base := by
  obtain ⟨b, nx, pk⟩ := s
  cases pk with
  | nil => exact mnL_nil
  | cons x r =>
    obtain ⟨h1, h2⟩ := mnL_ok (d := nx) (ns := (x :: r).map Prod.fst) (fun z => (nomatch z))
    have hx := h2 x.1 (.head _)
    have asc := List.pairwise_cons.mp h.asc
    rcases List.mem_cons.mp h1 with e | e
    · exact e
    · have := asc.1 _ e
      show mnL nx ((x :: r).map Prod.fst) = x.1
      have e2 : x.1 < mnL nx ((x :: r).map Prod.fst) := this
      omega
def UsS.put (s : UsS) (q : Addr) (x : List Int) : UsS := ⟨s.bits, s.nx + 1, s.pk ++ [(s.nx, q, x)]⟩
def UsS.keep (s : UsS) (f : Int → Bool) : UsS := ⟨s.bits, s.nx, s.pk.filter fun x => f x.1⟩
theorem keep_keys (pk : Pk) (f : Int → Bool) : (pk.filter fun x => f x.1).map Prod.fst = (pk.map Prod.fst).filter f := by
  rw [List.filter_map]
  rfl
theorem UsOk.put {s : UsS} (h : UsOk s) (q : Addr) (x : List Int) : UsOk (s.put q x) where
  b := h.b
  asc := by
    show ((s.pk ++ [(s.nx, q, x)]).map Prod.fst).Pairwise (· < ·)
    rw [List.map_append]
    refine List.pairwise_append.mpr ⟨h.asc, List.pairwise_cons.mpr ⟨fun y hy => (nomatch hy), .nil⟩, fun a ha b hb => ?_⟩
    rw [List.mem_singleton.mp hb]
    exact (h.lt a ha).2
  lt := fun n hn => by
    have hn2 : n ∈ (s.pk ++ [(s.nx, q, x)]).map Prod.fst := hn
    rw [List.map_append] at hn2
    show 0 ≤ n ∧ n < s.nx + 1
    rcases List.mem_append.mp hn2 with z | z
    · have := h.lt n z
      omega
    · have e : n = s.nx := List.mem_singleton.mp z
      have := h.n0
      omega
  n0 := by
    show 0 ≤ s.nx + 1
    have := h.n0
    omega
theorem UsOk.keep {s : UsS} (h : UsOk s) (f : Int → Bool) : UsOk (s.keep f) where
  b := h.b
  asc := by
    show ((s.pk.filter fun x => f x.1).map Prod.fst).Pairwise (· < ·)
    rw [keep_keys]
    exact h.asc.filter _
  lt := fun n hn => by
    have hn2 : n ∈ (s.pk.filter fun x => f x.1).map Prod.fst := hn
    rw [keep_keys] at hn2
    exact h.lt n (List.mem_filter.mp hn2).1
  n0 := h.n0
theorem kx_len {s : UsS} (ok : UsOk s) : s.pk.length ≤ s.nx.toNat := by
  have h : ∀ (l : List Int) (n : Int), l.Pairwise (· < ·) → (∀ x ∈ l, 0 ≤ x ∧ x < n) → (l.length : Int) ≤ max n 0 := by
    refine snocG ?_ ?_
    · intro n _ _
      show (0 : Int) ≤ _
      omega
    · intro l x ih n hp hx
      have hp2 := List.pairwise_append.mp hp
      have h1 := ih x hp2.1 (fun y hy => ⟨(hx y (List.mem_append_left _ hy)).1, hp2.2.2 y hy x (.head _)⟩)
      have h2 := hx x (List.mem_append_right _ (.head _))
      rw [List.length_append, List.length_singleton]
      omega
  have := h _ s.nx ok.asc ok.lt
  rw [List.length_map] at this
  have := ok.n0
  omega
section
variable {P : Program} {w : World} {K : PySem.W.Frag} {mg : Str → Option Value} {base : Heap}
def sp_UpperSender___init__ (K : PySem.W.Frag) (C : Addr) : Sp := fun vs H Q _ => ∃ (p dx : Addr) (b : Int) (B : Hp), vs = [.ref p, .int b] ∧ Cells H B [(p, .ins C dx [])] ∧ ∀ (d : Addr) (H' : Hp), Own H B [p] B (ucells C p dx d ⟨b, 0, []⟩) H' → Q .non H'
@[irreducible] def ip_UpperSender___init__ (K : PySem.W.Frag) (C : Addr) : Sp := sp_UpperSender___init__ K C
theorem op_UpperSender___init__ {K : PySem.W.Frag} {C : Addr} {vs : List V} {H : Hp} {Q : VK} {E : XK} (h : sp_UpperSender___init__ K C vs H Q E) : ip_UpperSender___init__ K C vs H Q E := by
  unfold ip_UpperSender___init__
  exact h
theorem un_UpperSender___init__ {K : PySem.W.Frag} {C : Addr} {vs : List V} {H : Hp} {Q : VK} {E : XK} (h : ip_UpperSender___init__ K C vs H Q E) : sp_UpperSender___init__ K C vs H Q E := by
  unfold ip_UpperSender___init__ at h
  exact h
theorem ok_UpperSender___init__ (T : Tx P w K mg base) : FnOk P w K mg base CX0 1 T.a_UpperSender___init__ T.d_UpperSender___init__ ["self", "bits"] (ip_UpperSender___init__ K T.C_UpperSender) := by
  refine T.p_UpperSender___init__.F.ok sc_UpperSender___init__ (fun vs H Q E h => ?_) (fun cdv A outer s H vs Q E hr h => ?_)
  · obtain ⟨p, dx, b, B, rfl, c, q⟩ := un_UpperSender___init__ h
    rfl
  · obtain ⟨p, dx, b, B, rfl, c, q⟩ := un_UpperSender___init__ h
    refine ⟨_, (pss_cons (ps_fldM (pv 0) (pv 1) T.k_UpperSender.cl T.f_UpperSender__bits) (pss_cons (ps_fldM (pv 0) pe_int T.k_UpperSender.cl T.f_UpperSender__next) (pss_one (ps_fldM (pv 0) pe_dnewK T.k_UpperSender.cl T.f_UpperSender__packets)))), ?_⟩
    have w0 : Own H B [p] B [(p, .ins T.C_UpperSender dx [])] H := c.start
    (repeat walk_at "rd")
    refine rd_putF (by walk_at "hp") (by exact Nat.le_of_ble_eq_true rfl) rfl ?_
    have w1 : Own H B [p] B [(p, .ins T.C_UpperSender dx [("_bits", .int b)])] _ := w0.set 0 rfl (.ins T.C_UpperSender dx [("_bits", .int b)])
    (repeat walk_at "rd")
    refine rd_putF (w1.mem (.head _)) (by exact Nat.le_of_ble_eq_true rfl) rfl ?_
    have w2 : Own H B [p] B [(p, .ins T.C_UpperSender dx [("_bits", .int b), ("_next", .int 0)])] _ := w1.set 0 rfl (.ins T.C_UpperSender dx [("_bits", .int b), ("_next", .int 0)])
    (repeat walk_at "rd")
    intro d hd
    have w3 : Own H B [p] B [(p, .ins T.C_UpperSender dx [("_bits", .int b), ("_next", .int 0)]), (d, .dK [])] _ := (w2.add hd (same_upd (o := .dK []) hd) upd_same).perm (List.perm_append_comm (l₁ := [(p, _)]))
    (repeat walk_at "rd")
    refine rd_putF (w3.mem (.head _)) (by exact Nat.le_of_ble_eq_true rfl) rfl ?_
    exact q d _ (w3.set 0 rfl (.ins T.C_UpperSender dx [("_bits", .int b), ("_next", .int 0), ("_packets", .ref d)]))
def sp_UpperSender_base (K : PySem.W.Frag) (C : Addr) : Sp := fun vs H Q _ => ∃ (p dx d : Addr) (s : UsS), vs = [.ref p] ∧ H p = some (.ins C dx (s.fs d)) ∧ H d = some (.dK (pkK s.pk)) ∧ UsOk s ∧ Q (.int s.base) H
@[irreducible] def ip_UpperSender_base (K : PySem.W.Frag) (C : Addr) : Sp := sp_UpperSender_base K C
theorem op_UpperSender_base {K : PySem.W.Frag} {C : Addr} {vs : List V} {H : Hp} {Q : VK} {E : XK} (h : sp_UpperSender_base K C vs H Q E) : ip_UpperSender_base K C vs H Q E := by
  unfold ip_UpperSender_base
  exact h
theorem un_UpperSender_base {K : PySem.W.Frag} {C : Addr} {vs : List V} {H : Hp} {Q : VK} {E : XK} (h : ip_UpperSender_base K C vs H Q E) : sp_UpperSender_base K C vs H Q E := by
  unfold ip_UpperSender_base at h
  exact h
theorem ok_UpperSender_base (T : Tx P w K mg base) : FnOk P w K mg base CX0 1 T.a_UpperSender_base T.d_UpperSender_base ["self"] (ip_UpperSender_base K T.C_UpperSender) := by
  refine T.p_UpperSender_base.F.ok sc_UpperSender_base (fun vs H Q E h => ?_) (fun cdv A outer s H vs Q E hr h => ?_)
  · obtain ⟨p, dx, d, s', rfl, hp, hd, ok, q⟩ := un_UpperSender_base h
    rfl
  · obtain ⟨p, dx, d, s', rfl, hp, hd, ok, q⟩ := un_UpperSender_base h
    refine ⟨_, (pss_one (ps_ret (pe_callBK (cr_minDf rfl) (by rfl) T.n_min (by decide +kernel) (pa_cons (pe_fldM (pv 0) T.k_UpperSender.cl T.f_UpperSender__packets) pa_nil) (pk_cons (pe_fldM (pv 0) T.k_UpperSender.cl T.f_UpperSender__next) pk_nil)))), ?_⟩
    (repeat walk_at "rd")
    refine rd_minD (.inr ⟨_, hd, pkK_keys _⟩) ?_
    rw [ok.base_eq]
    exact q
def sp_UpperSender_may_add (K : PySem.W.Frag) (C : Addr) : Sp := fun vs H Q _ => ∃ (p dx d : Addr) (s : UsS), vs = [.ref p] ∧ H p = some (.ins C dx (s.fs d)) ∧ H d = some (.dK (pkK s.pk)) ∧ UsOk s ∧ Q (.bl (decide (s.nx - s.base < 2 ^ (s.bits - 1).toNat))) H
@[irreducible] def ip_UpperSender_may_add (K : PySem.W.Frag) (C : Addr) : Sp := sp_UpperSender_may_add K C
theorem op_UpperSender_may_add {K : PySem.W.Frag} {C : Addr} {vs : List V} {H : Hp} {Q : VK} {E : XK} (h : sp_UpperSender_may_add K C vs H Q E) : ip_UpperSender_may_add K C vs H Q E := by
  unfold ip_UpperSender_may_add
  exact h
theorem un_UpperSender_may_add {K : PySem.W.Frag} {C : Addr} {vs : List V} {H : Hp} {Q : VK} {E : XK} (h : ip_UpperSender_may_add K C vs H Q E) : sp_UpperSender_may_add K C vs H Q E := by
  unfold ip_UpperSender_may_add at h
  exact h
theorem ok_UpperSender_may_add (T : Tx P w K mg base) : FnOk P w K mg base CX0 3 T.a_UpperSender_may_add T.d_UpperSender_may_add ["self"] (ip_UpperSender_may_add K T.C_UpperSender) := by
  have G_window := ok_window T
  have G_UpperSender_base := ok_UpperSender_base T
  refine T.p_UpperSender_may_add.F.ok sc_UpperSender_may_add (fun vs H Q E h => ?_) (fun cdv A outer s H vs Q E hr h => ?_)
  · obtain ⟨p, dx, d, s', rfl, hp, hd, ok, q⟩ := un_UpperSender_may_add h
    rfl
  · obtain ⟨p, dx, d, s', rfl, hp, hd, ok, q⟩ := un_UpperSender_may_add h
    refine ⟨_, (pss_one (ps_ret (pe_cmpR op_ltM (pe_op op_subM (pe_fldM (pv 0) T.k_UpperSender.cl T.f_UpperSender__next) (meth_weak (pe_meth0 (pe_c (pv 0)) T.k_UpperSender.cl T.p_UpperSender_base.me G_UpperSender_base (hr.mono (by decide)) T.p_UpperSender_base.b .nil pass0))) (pe_call G_window (hr.mono (by decide)) rfl T.p_window.m T.p_window.F.kp T.p_window.b .nil pass0 (pa_cons (pe_fldM (pv 0) T.k_UpperSender.cl T.f_UpperSender__bits) pa_nil)) (nomark _)))), ?_⟩
    have hb := ok.b
    (repeat walk_at "rd")
    refine op_UpperSender_base ⟨p, dx, d, s', rfl, hp, hd, ok, ?_⟩
    (repeat walk_at "rd")
    refine op_window ⟨_, rfl, by omega, by omega, ?_⟩
    (repeat walk_at "rd")
    exact q
def sp_UpperSender_add (K : PySem.W.Frag) (C N : Addr) : Sp := fun vs H Q E => ∃ (p dx d : Addr) (s : UsS) (B : Hp) (a : Addr) (xs : List Int), vs = [.ref p, .ref a] ∧ Cells H B (ucells C p dx d s) ∧ UsOk s ∧ SqL K H a (xs.map V.int) ∧ s.pk.length ≤ 100000 ∧
  (s.nx - s.base < 2 ^ (s.bits - 1).toNat → ∀ (B' H' : Hp) (c : Addr), Own H B [p, d] B' (ucells C p dx d (s.put c xs)) H' → B' c = some (.lst (xs.map V.int)) → Q (.int s.nx) H') ∧
  (¬ s.nx - s.base < 2 ^ (s.bits - 1).toNat → E (.ref N) none H)
@[irreducible] def ip_UpperSender_add (K : PySem.W.Frag) (C N : Addr) : Sp := sp_UpperSender_add K C N
theorem op_UpperSender_add {K : PySem.W.Frag} {C N : Addr} {vs : List V} {H : Hp} {Q : VK} {E : XK} (h : sp_UpperSender_add K C N vs H Q E) : ip_UpperSender_add K C N vs H Q E := by
  unfold ip_UpperSender_add
  exact h
theorem un_UpperSender_add {K : PySem.W.Frag} {C N : Addr} {vs : List V} {H : Hp} {Q : VK} {E : XK} (h : ip_UpperSender_add K C N vs H Q E) : sp_UpperSender_add K C N vs H Q E := by
  unfold ip_UpperSender_add at h
  exact h
theorem ok_UpperSender_add (T : Tx P w K mg base) : FnOk P w K mg base (L2.CX P w) 4 T.a_UpperSender_add T.d_UpperSender_add ["self", "packet"] (ip_UpperSender_add K T.C_UpperSender T.C_NotValid) := by
  have G_UpperSender_may_add := ok_UpperSender_may_add T
  refine T.p_UpperSender_add.F.okX sc_UpperSender_add (fun vs H Q E h => ?_) (fun cdv A outer s H vs Q E hr h => ?_)
  · obtain ⟨p, dx, d, s', B, a, xs, rfl, c, ok, hA, hn, q, q2⟩ := un_UpperSender_add h
    rfl
  · obtain ⟨p, dx, d, s', B, a, xs, rfl, c, ok, hA, hn, q, q2⟩ := un_UpperSender_add h
    refine ⟨_, (pss_cons (ps_ifM (pt_not (pt_val (meth_weak (pe_meth0 (pe_c (pv 0)) T.k_UpperSender.cl T.p_UpperSender_may_add.me G_UpperSender_may_add (hr.mono (by decide)) T.p_UpperSender_may_add.b .nil pass0)))) (pss_one (ps_raise rfl (takes_of rfl rfl rfl rfl) (pmk_plain T.x_NotValid (hr.mono (by decide)) rfl))) pss_nil) (pss_cons (ps_set (i := 2) sc_UpperSender_add.nd rfl (Or.inl rfl) (pe_fldM (pv 0) T.k_UpperSender.cl T.f_UpperSender__next)) (pss_cons (ps_dputM (hu_of hr) (pe_fldM (pv 0) T.k_UpperSender.cl T.f_UpperSender__packets) (pv 2) (pe_callTy call_listM (by rfl) T.n_list (by decide +kernel) (pa_cons (pv 1) pa_nil))) (pss_cons (ps_fldaugM (pv 0) pe_int in_add T.k_UpperSender.cl T.f_UpperSender__next) (pss_one (ps_ret (pv 2))))))), ?_⟩
    have w0 : Own H B [p, d] B (ucells T.C_UpperSender p dx d s') H := c.start
    have hp := w0.mem (p := p) (.head _)
    have hd := w0.mem (p := d) (.tail _ (.head _))
    (repeat walk_at "rd")
    refine op_UpperSender_may_add ⟨p, dx, d, s', rfl, hp, hd, ok, ?_⟩
    (repeat walk_at "rd")
    refine br_nby (fun h => ?_) (fun h => ?_)
    · (repeat walk_at "rd")
      exact q2 h
    (repeat walk_at "rd")
    refine rd_list (by walk_at "sq") ?_
    intro c1 H1 n1 s1 e1
    obtain ⟨B1, sB1, hB1, _, w1⟩ := w0.ro n1 s1 e1
    (repeat walk_at "rd")
    refine rd_dput (w1.mem (p := d) (.tail _ (.head _))) (by unfold pkK; rw [List.length_map]; omega) ?_
    have w2 : Own H B [p, d] B1 [(p, .ins T.C_UpperSender dx (s'.fs d)), (d, .dK (pkK (s'.pk ++ [(s'.nx, c1, xs)])))] _ := w1.set 1 rfl (.dK (pkK (s'.pk ++ [(s'.nx, c1, xs)])))
    rw [pk_put ok.fresh (x := xs)]
    have hp2 := w2.mem (p := p) (.head _)
    (repeat walk_at "rd")
    refine rd_putF hp2 (by exact Nat.le_of_ble_eq_true rfl) rfl ?_
    have w3 : Own H B [p, d] B1 (ucells T.C_UpperSender p dx d (s'.put c1 xs)) _ := w2.set 0 rfl (.ins T.C_UpperSender dx ((s'.put c1 xs).fs d))
    (repeat walk_at "rd")
    exact q h B1 _ c1 w3 hB1
def sp_UpperSender_next_count (K : PySem.W.Frag) (C : Addr) : Sp := fun vs H Q _ => ∃ (p dx d : Addr) (s : UsS), vs = [.ref p] ∧ H p = some (.ins C dx (s.fs d)) ∧ Q (.int s.nx) H
@[irreducible] def ip_UpperSender_next_count (K : PySem.W.Frag) (C : Addr) : Sp := sp_UpperSender_next_count K C
theorem op_UpperSender_next_count {K : PySem.W.Frag} {C : Addr} {vs : List V} {H : Hp} {Q : VK} {E : XK} (h : sp_UpperSender_next_count K C vs H Q E) : ip_UpperSender_next_count K C vs H Q E := by
  unfold ip_UpperSender_next_count
  exact h
theorem un_UpperSender_next_count {K : PySem.W.Frag} {C : Addr} {vs : List V} {H : Hp} {Q : VK} {E : XK} (h : ip_UpperSender_next_count K C vs H Q E) : sp_UpperSender_next_count K C vs H Q E := by
  unfold ip_UpperSender_next_count at h
  exact h
def sp_UpperSender_unconfirmed (K : PySem.W.Frag) (C : Addr) : Sp := fun vs H Q _ => ∃ (p dx d : Addr) (s : UsS), vs = [.ref p] ∧ H p = some (.ins C dx (s.fs d)) ∧ H d = some (.dK (pkK s.pk)) ∧ UsOk s ∧ PkAt H s.pk ∧ s.pk.length ≤ 1000 ∧
  ∀ (D : Addr) (ts qs : List Addr) (H' : Hp), H D = none → IO H D ts qs (pkX s.pk) H' → Q (.ref D) H'
@[irreducible] def ip_UpperSender_unconfirmed (K : PySem.W.Frag) (C : Addr) : Sp := sp_UpperSender_unconfirmed K C
theorem op_UpperSender_unconfirmed {K : PySem.W.Frag} {C : Addr} {vs : List V} {H : Hp} {Q : VK} {E : XK} (h : sp_UpperSender_unconfirmed K C vs H Q E) : ip_UpperSender_unconfirmed K C vs H Q E := by
  unfold ip_UpperSender_unconfirmed
  exact h
theorem un_UpperSender_unconfirmed {K : PySem.W.Frag} {C : Addr} {vs : List V} {H : Hp} {Q : VK} {E : XK} (h : ip_UpperSender_unconfirmed K C vs H Q E) : sp_UpperSender_unconfirmed K C vs H Q E := by
  unfold ip_UpperSender_unconfirmed at h
  exact h
theorem ok_UpperSender_unconfirmed (T : Tx P w K mg base) : FnOk P w K mg base CX0 2 T.a_UpperSender_unconfirmed T.d_UpperSender_unconfirmed ["self"] (ip_UpperSender_unconfirmed K T.C_UpperSender) := by
  have G_u_in_order := ok_u_in_order T
  refine T.p_UpperSender_unconfirmed.F.ok sc_UpperSender_unconfirmed (fun vs H Q E h => ?_) (fun cdv A outer s H vs Q E hr h => ?_)
  · obtain ⟨p, dx, d, s', rfl, hp, hd, ok, hk, hl, q⟩ := un_UpperSender_unconfirmed h
    rfl
  · obtain ⟨p, dx, d, s', rfl, hp, hd, ok, hk, hl, q⟩ := un_UpperSender_unconfirmed h
    refine ⟨_, (pss_one (ps_ret (pe_call G_u_in_order (hr.mono (by decide)) rfl T.p_u_in_order.m T.p_u_in_order.F.kp T.p_u_in_order.b .nil pass0 (pa_cons (pe_fldM (pv 0) T.k_UpperSender.cl T.f_UpperSender__packets) pa_nil)))), ?_⟩
    (repeat walk_at "rd")
    refine op_u_in_order ⟨d, s'.pk, rfl, hd, hk, ok.nd, hl, fun k hp ha D ts qs H' hD w => ?_⟩
    have e := asc_own hp ha (by rw [pkX_keys]; exact ok.asc)
    subst e
    exact q D ts qs H' hD w
def sp_UpperSender_confirm (K : PySem.W.Frag) (C : Addr) : Sp := fun vs H Q _ => ∃ (p dx d : Addr) (s : UsS) (B : Hp) (n : Int), vs = [.ref p, .int n] ∧ Cells H B (ucells C p dx d s) ∧ ∀ H', Own H B [p, d] B (ucells C p dx d (s.keep fun x => !decide (x = n))) H' → Q .non H'
@[irreducible] def ip_UpperSender_confirm (K : PySem.W.Frag) (C : Addr) : Sp := sp_UpperSender_confirm K C
theorem op_UpperSender_confirm {K : PySem.W.Frag} {C : Addr} {vs : List V} {H : Hp} {Q : VK} {E : XK} (h : sp_UpperSender_confirm K C vs H Q E) : ip_UpperSender_confirm K C vs H Q E := by
  unfold ip_UpperSender_confirm
  exact h
theorem un_UpperSender_confirm {K : PySem.W.Frag} {C : Addr} {vs : List V} {H : Hp} {Q : VK} {E : XK} (h : ip_UpperSender_confirm K C vs H Q E) : sp_UpperSender_confirm K C vs H Q E := by
  unfold ip_UpperSender_confirm at h
  exact h
theorem ok_UpperSender_confirm (T : Tx P w K mg base) : FnOk P w K mg base CX0 1 T.a_UpperSender_confirm T.d_UpperSender_confirm ["self", "count"] (ip_UpperSender_confirm K T.C_UpperSender) := by
  refine T.p_UpperSender_confirm.F.ok sc_UpperSender_confirm (fun vs H Q E h => ?_) (fun cdv A outer s H vs Q E hr h => ?_)
  · obtain ⟨p, dx, d, s', B, n, rfl, c, q⟩ := un_UpperSender_confirm h
    rfl
  · obtain ⟨p, dx, d, s', B, n, rfl, c, q⟩ := un_UpperSender_confirm h
    refine ⟨_, (pss_one (ps_ifM (pt_cmp (pc_dinM (hu_of hr) (pv 1) (pe_fldM (pv 0) T.k_UpperSender.cl T.f_UpperSender__packets))) (pss_one (ps_ddelM (pe_fldM (pv 0) T.k_UpperSender.cl T.f_UpperSender__packets) (pv 1))) pss_nil)), ?_⟩
    have w0 : Own H B [p, d] B (ucells T.C_UpperSender p dx d s') H := c.start
    have hp := w0.mem (p := p) (.head _)
    have hd := w0.mem (p := d) (.tail _ (.head _))
    (repeat walk_at "rd")
    rw [pk_is]
    refine br_by (fun h => ?_) (fun h => ?_)
    · (repeat walk_at "rd")
      refine rd_ddel hd (by rw [pk_is]; exact decide_eq_true h) ?_
      rw [pk_drop]
      exact q _ (w0.set 1 rfl (.dK (pkK (s'.keep fun x => !decide (x = n)).pk)))
    · have e : s'.keep (fun x => !decide (x = n)) = s' := by
        obtain ⟨b, nx, pk⟩ := s'
        show UsS.mk b nx _ = _
        congr 1
        refine List.filter_eq_self.mpr fun x hx => ?_
        have : ¬ x.1 = n := fun e => h (e ▸ List.mem_map.mpr ⟨x, hx, rfl⟩)
        simp [this]
      rw [e] at q
      exact q _ w0
def repK (f : Int) (ls : List Int) (n : Int) : Bool := !(decide (n < f) || decide (n ∈ ls))
def sp_UpperSender_take_report (K : PySem.W.Frag) (C : Addr) : Sp := fun vs H Q _ => ∃ (p dx d : Addr) (s : UsS) (B : Hp) (f : Int) (la : Addr) (ls : List Int), vs = [.ref p, .int f, .ref la] ∧ Cells H B (ucells C p dx d s) ∧ UsOk s ∧ SqL K B la (ls.map V.int) ∧ s.pk.length ≤ 100000 ∧ ∀ B' H', Own H B [p, d] B' (ucells C p dx d (s.keep (repK f ls))) H' → Q .non H'
theorem rep_step (pk : Pk) (ks : List Int) (i : Nat) (n : Int) (g : Int → Bool) (hi : ks[i]? = some n) : (pk.filter fun x => !(decide (x.1 ∈ ks.take (i + 1)) && !g x.1)) = if g n = true then (pk.filter fun x => !(decide (x.1 ∈ ks.take i) && !g x.1)) else (pk.filter fun x => !(decide (x.1 ∈ ks.take i) && !g x.1)).filter fun x => !decide (x.1 = n) := by
  rw [take_snoc hi]
  by_cases h : g n = true
  · rw [if_pos h]
    refine List.filter_congr fun x _ => ?_
    by_cases e : x.1 = n
    · rw [e, h]
      simp
    · have e2 : decide (x.1 ∈ ks.take i ++ [n]) = decide (x.1 ∈ ks.take i) := by
        refine decide_eq_decide.mpr ⟨fun z => ?_, fun z => List.mem_append_left _ z⟩
        rcases List.mem_append.mp z with z | z
        · exact z
        · exact absurd (List.mem_singleton.mp z) e
      rw [e2]
  · rw [if_neg h, List.filter_filter]
    refine List.filter_congr fun x _ => ?_
    by_cases e : x.1 = n
    · rw [e]
      have : g n = false := by cases hg : g n with
        | true => exact absurd hg h
        | false => rfl
      rw [this]
      simp
    · have e2 : decide (x.1 ∈ ks.take i ++ [n]) = decide (x.1 ∈ ks.take i) := by
        refine decide_eq_decide.mpr ⟨fun z => ?_, fun z => List.mem_append_left _ z⟩
        rcases List.mem_append.mp z with z | z
        · exact z
        · exact absurd (List.mem_singleton.mp z) e
      rw [e2, decide_eq_false e]
      simp
theorem rep_end (pk : Pk) (g : Int → Bool) : (pk.filter fun x => !(decide (x.1 ∈ (pk.map Prod.fst).take (pk.map Prod.fst).length) && !g x.1)) = pk.filter fun x => g x.1 := by
  refine List.filter_congr fun x hx => ?_
  rw [List.take_length, decide_eq_true (List.mem_map.mpr ⟨x, hx, rfl⟩)]
  cases g x.1 <;> rfl
@[irreducible] def ip_UpperSender_take_report (K : PySem.W.Frag) (C : Addr) : Sp := sp_UpperSender_take_report K C
theorem op_UpperSender_take_report {K : PySem.W.Frag} {C : Addr} {vs : List V} {H : Hp} {Q : VK} {E : XK} (h : sp_UpperSender_take_report K C vs H Q E) : ip_UpperSender_take_report K C vs H Q E := by
  unfold ip_UpperSender_take_report
  exact h
theorem un_UpperSender_take_report {K : PySem.W.Frag} {C : Addr} {vs : List V} {H : Hp} {Q : VK} {E : XK} (h : ip_UpperSender_take_report K C vs H Q E) : sp_UpperSender_take_report K C vs H Q E := by
  unfold ip_UpperSender_take_report at h
  exact h
theorem ok_UpperSender_take_report (T : Tx P w K mg base) : FnOk P w K mg base CX0 1 T.a_UpperSender_take_report T.d_UpperSender_take_report ["self", "first", "later"] (ip_UpperSender_take_report K T.C_UpperSender) := by
  refine T.p_UpperSender_take_report.F.ok sc_UpperSender_take_report (fun vs H Q E h => ?_) (fun cdv A outer s H vs Q E hr h => ?_)
  · obtain ⟨p, dx, d, s', B, f, la, ls, rfl, c, ok, hL, hn, q⟩ := un_UpperSender_take_report h
    rfl
  · obtain ⟨p, dx, d, s', B, f, la, ls, rfl, c, ok, hL, hn, q⟩ := un_UpperSender_take_report h
    refine ⟨_, (pss_one (ps_forL PassesOwn.never rfl (pe_callTy (call_listDM rfl) (by rfl) T.n_list (by decide +kernel) (pa_cons (pe_fldM (pv 0) T.k_UpperSender.cl T.f_UpperSender__packets) pa_nil)) (pg_name (i := 3) sc_UpperSender_take_report.nd rfl (Or.inl rfl)) (pss_one (ps_ifM (PW.pt (pw_orM (pt_cmpR op_ltM (pv 3) (pv 1) (nomark _)) (pw_or1 (pt_cmpR (op_inDM (hu65 hr)) (pv 3) (pv 2) (by rfl))))) (pss_one (ps_ddelM (pe_fldM (pv 0) T.k_UpperSender.cl T.f_UpperSender__packets) (pv 3))) pss_nil)))), ?_⟩
    have w0 : Own H B [p, d] B (ucells T.C_UpperSender p dx d s') H := c.start
    have hp := w0.mem (p := p) (.head _)
    have hd := w0.mem (p := d) (.tail _ (.head _))
    refine rd_forL ?_
    (repeat walk_at "rd")
    refine rd_listD hd (pkK_keys _) ?_
    intro k H1 n1 s1 e1
    have w1 := w0.more s1
    obtain ⟨B1, sB1, hB1, _, w1⟩ := w0.ro n1 s1 e1
    refine ⟨k, (s'.pk.map Prod.fst).map V.int, fun i σ H' => Stop (Own H B [p, d] B1 (ucells T.C_UpperSender p dx d ⟨s'.bits, s'.nx, s'.pk.filter fun x => !(decide (x.1 ∈ (s'.pk.map Prod.fst).take i) && !repK f ls x.1)⟩) H' ∧ ∃ y, σ = [some (.ref p), some (.int f), some (.ref la), y]), rfl, sq_of e1, .a ⟨?_, _, rfl⟩, fun i σ' H' _ w => ?_, fun i y σ' H' hi w => ?_, fun σ' H' w => ?_⟩
    · have e : (s'.pk.filter fun x => !(decide (x.1 ∈ (s'.pk.map Prod.fst).take 0) && !repK f ls x.1)) = s'.pk := List.filter_eq_self.mpr fun x _ => by
        rw [List.take_zero, decide_eq_false (fun z => (nomatch z))]
        rfl
      rw [e]
      exact w1
    · exact sq_of (w.un.1.imm _ _ hB1)
    · obtain ⟨w2, x, rfl⟩ := w.un
      rw [List.getElem?_map] at hi
      obtain ⟨n, hn2, rfl⟩ := Option.map_eq_some_iff.mp hi
      have hst := rep_step s'.pk _ i n (repK f ls) hn2
      have hp2 := w2.mem (p := p) (.head _)
      have hd2 := w2.mem (p := d) (.tail _ (.head _))
      have hL2 : SqL K H' la (ls.map V.int) := (sB1.trans w2.imm).seq hL
      have hnt : n ∉ (s'.pk.map Prod.fst).take i := fun z => by
        obtain ⟨j, hj⟩ := List.getElem?_of_mem z
        rw [List.getElem?_take] at hj
        split at hj
        · have hil := (List.getElem?_eq_some_iff.mp hj).1
          have := (List.getElem?_inj hil ok.nd).mp (hj.trans hn2.symm)
          omega
        · cases hj
      have hin : n ∈ (s'.pk.filter fun x => !(decide (x.1 ∈ (s'.pk.map Prod.fst).take i) && !repK f ls x.1)).map Prod.fst := by
        obtain ⟨z, hz, ez⟩ := List.mem_map.mp (List.mem_of_getElem? hn2)
        refine List.mem_map.mpr ⟨z, List.mem_filter.mpr ⟨hz, ?_⟩, ez⟩
        rw [ez, decide_eq_false hnt]
        rfl
      generalize (s'.pk.filter fun x => !(decide (x.1 ∈ (s'.pk.map Prod.fst).take i) && !repK f ls x.1)) = pki at *
      have w3 : Own H B [p, d] B1 (ucells T.C_UpperSender p dx d ⟨s'.bits, s'.nx, pki.filter fun x => !decide (x.1 = n)⟩) _ := w2.set 1 rfl (.dK (pkK (pki.filter fun x => !decide (x.1 = n))))
      (repeat walk_at "rd")
      refine br_by (fun h => ?_) (fun h => ?_)
      · have hr : ¬ repK f ls n = true := by
          unfold repK
          rw [decide_eq_true h]
          exact fun z => by cases z
        (repeat walk_at "rd")
        refine rd_ddel hd2 (by rw [pk_is]; exact decide_eq_true hin) ?_
        rw [pk_drop]
        refine .a ⟨?_, _, rfl⟩
        rw [hst, if_neg hr]
        exact w3
      · (repeat walk_at "rd")
        refine rd_inI hL2 ?_
        (repeat walk_at "rd")
        refine br_by (fun h2 => ?_) (fun h2 => ?_)
        · have hr : ¬ repK f ls n = true := by
            unfold repK
            rw [decide_eq_true h2, Bool.or_true]
            exact fun z => by cases z
          (repeat walk_at "rd")
          refine rd_ddel hd2 (by rw [pk_is]; exact decide_eq_true hin) ?_
          rw [pk_drop]
          refine .a ⟨?_, _, rfl⟩
          rw [hst, if_neg hr]
          exact w3
        · have hr : repK f ls n = true := by
            unfold repK
            rw [decide_eq_false h, decide_eq_false h2]
            rfl
          refine .a ⟨?_, _, rfl⟩
          rw [hst, if_pos hr]
          exact w2
    · obtain ⟨w2, x, rfl⟩ := w.un
      have e := rep_end s'.pk (repK f ls)
      rw [List.length_map, e] at w2
      exact q B1 H' w2
end
theorem keep_keysU (pk : Pk) (f : Int → Bool) : (pk.filter fun x => f x.1).map Prod.fst = (pk.map Prod.fst).filter f := by
  rw [List.filter_map]
  rfl
structure UrS where
  bits : Int
  first : Int
  pk : Pk
def UrS.fs (s : UrS) (d : Addr) : List (Str × V) := [("_bits", .int s.bits), ("_first", .int s.first), ("_ahead", .ref d)]
abbrev rvcells (C p dx d : Addr) (s : UrS) : List (Addr × HO) := [(p, .ins C dx (s.fs d)), (d, .dK (pkK s.pk))]
structure UrOk (s : UrS) : Prop where
  b : 4 ≤ s.bits ∧ s.bits ≤ 7
  nd : (s.pk.map Prod.fst).Nodup
  gt : ∀ n ∈ s.pk.map Prod.fst, s.first < n
  f0 : 0 ≤ s.first
def dlenU (o : Option HO) : Nat := match o with
  | some (.dK k) => k.length
  | _ => 0
def CntP (P : Int → List Int) (pk : Pk) : Prop := ∀ x ∈ pk, x.2.2 = P x.1
def fromP (P : Int → List Int) (f : Int) (n : Nat) : List (List Int) := (List.range n).map fun i : Nat => P (f + (i : Int))
theorem fromP_succ (P : Int → List Int) (f : Int) (n : Nat) : fromP P f (n + 1) = fromP P f n ++ [P (f + (n : Int))] := by
  unfold fromP
  rw [List.range_succ, List.map_append]
  rfl
theorem fromP_app (P : Int → List Int) (n k : Nat) : fromP P 0 n ++ fromP P (n : Int) k = fromP P 0 (n + k) := by
  induction k with
  | zero => rw [show fromP P (n : Int) 0 = [] from rfl, List.append_nil, Nat.add_zero]
  | succ k ih =>
    have e : ((n : Int) + (k : Int)) = 0 + ((n + k : Nat) : Int) := by omega
    rw [fromP_succ, ← List.append_assoc, ih, ← Nat.add_assoc, fromP_succ, e]
/-- what comes of taking the count n: the keys, the first missing one -/
structure UrTook (s : UrS) (n : Int) (s' : UrS) : Prop where
  ok : UrOk s'
  eb : s'.bits = s.bits
  le : s.first ≤ s'.first
  ks : ∀ m, m ∈ s'.pk.map Prod.fst ↔ s'.first ≤ m ∧ (m ∈ s.pk.map Prod.fst ∨ (m = n ∧ s.first ≤ n))
  given : ∀ m, s.first ≤ m → m < s'.first → m ∈ s.pk.map Prod.fst ∨ m = n
  ln : s'.pk.length ≤ s.pk.length + 1
section
variable {P : Program} {w : World} {K : PySem.W.Frag} {mg : Str → Option Value} {base : Heap}
def sp_UpperReceiver___init__ (K : PySem.W.Frag) (C : Addr) : Sp := fun vs H Q _ => ∃ (p dx : Addr) (b : Int) (B : Hp), vs = [.ref p, .int b] ∧ Cells H B [(p, .ins C dx [])] ∧ ∀ (d : Addr) (H' : Hp), Own H B [p] B (rvcells C p dx d ⟨b, 0, []⟩) H' → Q .non H'
@[irreducible] def ip_UpperReceiver___init__ (K : PySem.W.Frag) (C : Addr) : Sp := sp_UpperReceiver___init__ K C
theorem op_UpperReceiver___init__ {K : PySem.W.Frag} {C : Addr} {vs : List V} {H : Hp} {Q : VK} {E : XK} (h : sp_UpperReceiver___init__ K C vs H Q E) : ip_UpperReceiver___init__ K C vs H Q E := by
  unfold ip_UpperReceiver___init__
  exact h
theorem un_UpperReceiver___init__ {K : PySem.W.Frag} {C : Addr} {vs : List V} {H : Hp} {Q : VK} {E : XK} (h : ip_UpperReceiver___init__ K C vs H Q E) : sp_UpperReceiver___init__ K C vs H Q E := by
  unfold ip_UpperReceiver___init__ at h
  exact h
theorem ok_UpperReceiver___init__ (T : Tx P w K mg base) : FnOk P w K mg base CX0 1 T.a_UpperReceiver___init__ T.d_UpperReceiver___init__ ["self", "bits"] (ip_UpperReceiver___init__ K T.C_UpperReceiver) := by
  refine T.p_UpperReceiver___init__.F.ok sc_UpperReceiver___init__ (fun vs H Q E h => ?_) (fun cdv A outer s H vs Q E hr h => ?_)
  · obtain ⟨p, dx, b, B, rfl, c, q⟩ := un_UpperReceiver___init__ h
    rfl
  · obtain ⟨p, dx, b, B, rfl, c, q⟩ := un_UpperReceiver___init__ h
    refine ⟨_, (pss_cons (ps_fldM (pv 0) (pv 1) T.k_UpperReceiver.cl T.f_UpperReceiver__bits) (pss_cons (ps_fldM (pv 0) pe_int T.k_UpperReceiver.cl T.f_UpperReceiver__first) (pss_one (ps_fldM (pv 0) pe_dnewK T.k_UpperReceiver.cl T.f_UpperReceiver__ahead)))), ?_⟩
    have w0 : Own H B [p] B [(p, .ins T.C_UpperReceiver dx [])] H := c.start
    (repeat walk_at "rd")
    refine rd_putF (by walk_at "hp") (by exact Nat.le_of_ble_eq_true rfl) rfl ?_
    have w1 : Own H B [p] B [(p, .ins T.C_UpperReceiver dx [("_bits", .int b)])] _ := w0.set 0 rfl (.ins T.C_UpperReceiver dx [("_bits", .int b)])
    (repeat walk_at "rd")
    refine rd_putF (w1.mem (.head _)) (by exact Nat.le_of_ble_eq_true rfl) rfl ?_
    have w2 : Own H B [p] B [(p, .ins T.C_UpperReceiver dx [("_bits", .int b), ("_first", .int 0)])] _ := w1.set 0 rfl (.ins T.C_UpperReceiver dx [("_bits", .int b), ("_first", .int 0)])
    (repeat walk_at "rd")
    intro d hd
    have w3 : Own H B [p] B [(p, .ins T.C_UpperReceiver dx [("_bits", .int b), ("_first", .int 0)]), (d, .dK [])] _ := (w2.add hd (same_upd (o := .dK []) hd) upd_same).perm (List.perm_append_comm (l₁ := [(p, _)]))
    (repeat walk_at "rd")
    refine rd_putF (w3.mem (.head _)) (by exact Nat.le_of_ble_eq_true rfl) rfl ?_
    exact q d _ (w3.set 0 rfl (.ins T.C_UpperReceiver dx [("_bits", .int b), ("_first", .int 0), ("_ahead", .ref d)]))
def sp_UpperReceiver_first_missing (K : PySem.W.Frag) (C : Addr) : Sp := fun vs H Q _ => ∃ (p dx d : Addr) (s : UrS), vs = [.ref p] ∧ H p = some (.ins C dx (s.fs d)) ∧ Q (.int s.first) H
@[irreducible] def ip_UpperReceiver_first_missing (K : PySem.W.Frag) (C : Addr) : Sp := sp_UpperReceiver_first_missing K C
theorem op_UpperReceiver_first_missing {K : PySem.W.Frag} {C : Addr} {vs : List V} {H : Hp} {Q : VK} {E : XK} (h : sp_UpperReceiver_first_missing K C vs H Q E) : ip_UpperReceiver_first_missing K C vs H Q E := by
  unfold ip_UpperReceiver_first_missing
  exact h
theorem un_UpperReceiver_first_missing {K : PySem.W.Frag} {C : Addr} {vs : List V} {H : Hp} {Q : VK} {E : XK} (h : ip_UpperReceiver_first_missing K C vs H Q E) : sp_UpperReceiver_first_missing K C vs H Q E := by
  unfold ip_UpperReceiver_first_missing at h
  exact h
theorem ok_UpperReceiver_first_missing (T : Tx P w K mg base) : FnOk P w K mg base CX0 1 T.a_UpperReceiver_first_missing T.d_UpperReceiver_first_missing ["self"] (ip_UpperReceiver_first_missing K T.C_UpperReceiver) := by
  refine T.p_UpperReceiver_first_missing.F.ok sc_UpperReceiver_first_missing (fun vs H Q E h => ?_) (fun cdv A outer s H vs Q E hr h => ?_)
  · obtain ⟨p, dx, d, s', rfl, hp, q⟩ := un_UpperReceiver_first_missing h
    rfl
  · obtain ⟨p, dx, d, s', rfl, hp, q⟩ := un_UpperReceiver_first_missing h
    refine ⟨_, (pss_one (ps_ret (pe_fldM (pv 0) T.k_UpperReceiver.cl T.f_UpperReceiver__first))), ?_⟩
    (repeat walk_at "rd")
    exact q
def sp_UpperReceiver_take_count (K : PySem.W.Frag) (C : Addr) : Sp := fun vs H Q _ => ∃ (p dx d : Addr) (s : UrS) (B : Hp) (n : Int) (a : Addr) (P : Int → List Int), vs = [.ref p, .int n, .ref a] ∧ Cells H B (rvcells C p dx d s) ∧ UrOk s ∧ PkAt B s.pk ∧ CntP P s.pk ∧ SqL K H a ((P n).map V.int) ∧ s.pk.length ≤ 10000 ∧
  ∀ (B' H' : Hp) (D : Addr) (gs : List Addr) (s' : UrS), Own H B [p, d] B' (rvcells C p dx d s') H' → B' D = some (.lst (gs.map V.ref)) → LLs B' gs (fromP P s.first (s'.first - s.first).toNat) → UrTook s n s' → PkAt B' s'.pk → CntP P s'.pk → Q (.ref D) H'
@[irreducible] def ip_UpperReceiver_take_count (K : PySem.W.Frag) (C : Addr) : Sp := sp_UpperReceiver_take_count K C
theorem op_UpperReceiver_take_count {K : PySem.W.Frag} {C : Addr} {vs : List V} {H : Hp} {Q : VK} {E : XK} (h : sp_UpperReceiver_take_count K C vs H Q E) : ip_UpperReceiver_take_count K C vs H Q E := by
  unfold ip_UpperReceiver_take_count
  exact h
theorem un_UpperReceiver_take_count {K : PySem.W.Frag} {C : Addr} {vs : List V} {H : Hp} {Q : VK} {E : XK} (h : ip_UpperReceiver_take_count K C vs H Q E) : sp_UpperReceiver_take_count K C vs H Q E := by
  unfold ip_UpperReceiver_take_count at h
  exact h
theorem ok_UpperReceiver_take_count (T : Tx P w K mg base) : FnOk P w K mg base CX0 1 T.a_UpperReceiver_take_count T.d_UpperReceiver_take_count ["self", "count", "packet"] (ip_UpperReceiver_take_count K T.C_UpperReceiver) := by
  refine T.p_UpperReceiver_take_count.F.ok sc_UpperReceiver_take_count (fun vs H Q E h => ?_) (fun cdv A outer s H vs Q E hr h => ?_)
  · obtain ⟨p, dx, d, s', B, n, a, P, rfl, c, ok, hpk, hP, hA, hn, q⟩ := un_UpperReceiver_take_count h
    rfl
  · obtain ⟨p, dx, d, s', B, n, a, P, rfl, c, ok, hpk, hP, hA, hn, q⟩ := un_UpperReceiver_take_count h
    refine ⟨_, (pss_cons (ps_ifM (PW.pt (pw_orM (pt_cmpR op_ltM (pv 1) (pe_fldM (pv 0) T.k_UpperReceiver.cl T.f_UpperReceiver__first) (nomark _)) (pw_or1 (pt_cmp (pc_dinM (hu_of hr) (pv 1) (pe_fldM (pv 0) T.k_UpperReceiver.cl T.f_UpperReceiver__ahead)))))) (pss_one (ps_ret (pe_lstM pa_nil))) pss_nil) (pss_cons (ps_dputM (hu_of hr) (pe_fldM (pv 0) T.k_UpperReceiver.cl T.f_UpperReceiver__ahead) (pv 1) (pe_callTy call_listM (by rfl) T.n_list (by decide +kernel) (pa_cons (pv 2) pa_nil))) (pss_cons (ps_set (i := 3) sc_UpperReceiver_take_count.nd rfl (Or.inl rfl) (pe_lstM pa_nil)) (pss_cons (ps_whileM PassesOwn.never (pt_cmp (pc_dinM (hu_of hr) (pe_fldM (pv 0) T.k_UpperReceiver.cl T.f_UpperReceiver__first) (pe_fldM (pv 0) T.k_UpperReceiver.cl T.f_UpperReceiver__ahead))) (pss_cons (ps_expr (pe_app (pv 3) (pe_dpopM (pe_fldM (pv 0) T.k_UpperReceiver.cl T.f_UpperReceiver__ahead) (pe_fldM (pv 0) T.k_UpperReceiver.cl T.f_UpperReceiver__first)))) (pss_one (ps_fldaugM (pv 0) pe_int in_add T.k_UpperReceiver.cl T.f_UpperReceiver__first)))) (pss_one (ps_ret (pv 3))))))), ?_⟩
    have w0 : Own H B [p, d] B (rvcells T.C_UpperReceiver p dx d s') H := c.start
    have hp := w0.mem (p := p) (.head _)
    have hd := w0.mem (p := d) (.tail _ (.head _))
    have fin : ∀ (D : Addr) (H1 : Hp), (n < s'.first ∨ n ∈ s'.pk.map Prod.fst) → H D = none → Same H H1 → H1 D = some (.lst []) → Q (.ref D) H1 := fun D H1 hc nD s e => by
      obtain ⟨B1, sB1, hB1, _, w1⟩ := w0.ro nD s e
      have e0 : (s'.first - s'.first).toNat = 0 := by omega
      refine q B1 H1 D [] s' w1 hB1 (by rw [e0]; exact .nil) ⟨ok, rfl, Int.le_refl _, fun m => ⟨fun h => ⟨by have := ok.gt m h; omega, .inl h⟩, fun h => ?_⟩, fun m h1 h2 => by omega, by omega⟩ (hpk.mono sB1) hP
      rcases h.2 with h2 | ⟨rfl, h2⟩
      · exact h2
      · rcases hc with hc | hc
        · omega
        · exact hc
    (repeat walk_at "rd")
    refine br_by (fun h => ?_) (fun h => ?_)
    · (repeat walk_at "rd")
      intro D H1 nD s e
      exact fin D H1 (.inl h) nD s e
    (repeat walk_at "rd")
    rw [pk_is]
    refine br_by (fun h2 => ?_) (fun h2 => ?_)
    · (repeat walk_at "rd")
      intro D H1 nD s e
      exact fin D H1 (.inr h2) nD s e
    (repeat walk_at "rd")
    refine rd_list hA ?_
    intro c1 H1 n1 s1 e1
    obtain ⟨B1, sB1, hB1, _, w1⟩ := w0.ro n1 s1 e1
    (repeat walk_at "rd")
    refine rd_dput (w1.mem (p := d) (.tail _ (.head _))) (by unfold pkK; rw [List.length_map]; omega) ?_
    rw [pk_put h2 (x := P n)]
    have w2 : Own H B [p, d] B1 (rvcells T.C_UpperReceiver p dx d ⟨s'.bits, s'.first, s'.pk ++ [(n, c1, P n)]⟩) _ := w1.set 1 rfl (.dK (pkK (s'.pk ++ [(n, c1, P n)])))
    generalize hH2 : upd H1 d (.dK (pkK (s'.pk ++ [(n, c1, P n)]))) = H2
    have w2 : Own H B [p, d] B1 (rvcells T.C_UpperReceiver p dx d ⟨s'.bits, s'.first, s'.pk ++ [(n, c1, P n)]⟩) H2 := hH2 ▸ w2
    clear hH2 w1
    have hP2 : CntP P (s'.pk ++ [(n, c1, P n)]) := fun x hx => by
      rcases List.mem_append.mp hx with hx | hx
      · exact hP x hx
      · rw [List.mem_singleton.mp hx]
    have hpk2 : PkAt B1 (s'.pk ++ [(n, c1, P n)]) := (hpk.mono sB1).snoc hB1
    have nd2 : ((s'.pk ++ [(n, c1, P n)]).map Prod.fst).Nodup := by
      rw [List.map_append]
      refine List.nodup_append.mpr ⟨ok.nd, List.nodup_cons.mpr ⟨fun h => (nomatch h), List.nodup_nil⟩, fun x hx y hy e => ?_⟩
      have e2 : x = n := e.trans (by rw [List.mem_singleton.mp hy])
      exact h2 (by rw [← e2]; exact hx)
    have ge2 : ∀ m ∈ (s'.pk ++ [(n, c1, P n)]).map Prod.fst, s'.first ≤ m := fun m hm => by
      rw [List.map_append] at hm
      rcases List.mem_append.mp hm with hm | hm
      · have := ok.gt m hm
        omega
      · rw [List.mem_singleton.mp hm]
        show s'.first ≤ n
        omega
    have ks2 : ∀ m, m ∈ (s'.pk ++ [(n, c1, P n)]).map Prod.fst ↔ m ∈ s'.pk.map Prod.fst ∨ m = n := fun m => by
      rw [List.map_append, List.mem_append]
      exact ⟨fun h => h.elim .inl fun h => .inr (List.mem_singleton.mp h), fun h => h.elim .inl fun h => .inr (List.mem_singleton.mpr h)⟩
    have ln2 : (s'.pk ++ [(n, c1, P n)]).length = s'.pk.length + 1 := by
      rw [List.length_append]
      rfl
    generalize s'.pk ++ [(n, c1, P n)] = pk0 at *
    (repeat walk_at "rd")
    intro D H3 nD s3 eD
    have w3 : Own H B [p, d] B1 (rvcells T.C_UpperReceiver p dx d ⟨s'.bits, s'.first, pk0⟩ ++ [(D, .lst (([] : List Addr).map V.ref))]) H3 := w2.addR nD s3 eD
    have hDn := (w2.frS nD).1
    have w3n : D ∉ [p, d] := (w2.frS nD).2
    clear w2 s3 eD nD
    (repeat walk_at "rd")
    refine rd_while (fun σ H' => Stop (∃ (f1 : Int) (pk1 : Pk) (gs : List Addr), Own H B [p, d] B1 (rvcells T.C_UpperReceiver p dx d ⟨s'.bits, f1, pk1⟩ ++ [(D, .lst (gs.map V.ref))]) H' ∧ s'.first ≤ f1 ∧ gs.length + pk1.length ≤ pk0.length ∧ pk1 = pk0.filter (fun x => decide (f1 ≤ x.1)) ∧ LLs B1 gs (fromP P s'.first (f1 - s'.first).toNat) ∧ (∀ m, s'.first ≤ m → m < f1 → m ∈ pk0.map Prod.fst) ∧
      σ = [some (.ref p), some (.int n), some (.ref a), some (.ref D)])) (fun _ H' => dlenU (H' d)) (.a ⟨s'.first, pk0, [], w3, Int.le_refl _, Nat.le_of_eq (Nat.zero_add _), ?_, ?_, fun m h1 h2 => by omega, rfl⟩) (fun σ' H' w => ?_)
    · symm
      refine List.filter_eq_self.mpr fun x hx => decide_eq_true (ge2 x.1 (List.mem_map.mpr ⟨x, hx, rfl⟩))
    · have e0 : (s'.first - s'.first).toNat = 0 := by omega
      rw [e0]
      exact .nil
    obtain ⟨f1, pk1, gs, w4, hf1, hf2, epk, hgs, hgv, rfl⟩ := w.un
    have hp4 := w4.mem (p := p) (.head _)
    have hd4 := w4.mem (p := d) (.tail _ (.head _))
    have hD4 := w4.mem (p := D) (.tail _ (.tail _ (.head _)))
    have ekk : (pk0.filter fun x => decide (f1 ≤ x.1)).map Prod.fst = (pk0.map Prod.fst).filter fun k => decide (f1 ≤ k) := keep_keysU pk0 (fun k => decide (f1 ≤ k))
    have hk1 : ∀ m, m ∈ pk1.map Prod.fst ↔ f1 ≤ m ∧ m ∈ pk0.map Prod.fst := fun m => by
      rw [epk, ekk, List.mem_filter]
      exact ⟨fun h => ⟨of_decide_eq_true h.2, h.1⟩, fun h => ⟨h.2, decide_eq_true h.1⟩⟩
    have nd1 : (pk1.map Prod.fst).Nodup := by
      rw [epk, ekk]
      exact nd2.filter _
    have hpk1 : PkAt B1 pk1 := by
      rw [epk]
      exact hpk2.filter _
    have hP1 : CntP P pk1 := fun x hx => by
      rw [epk] at hx
      exact hP2 x (List.mem_filter.mp hx).1
    (repeat walk_at "rd")
    rw [pk_is]
    refine br_by (fun h3 => ?_) (fun h3 => ?_)
    · (repeat walk_at "rd")
      obtain ⟨x, hx, ex⟩ := List.mem_map.mp h3
      have hv := pk_val nd1 hx
      rw [ex] at hv
      refine rd_dpop hd4 hv ?_
      rw [pk_drop]
      have w5 : Own H B [p, d] B1 (rvcells T.C_UpperReceiver p dx d ⟨s'.bits, f1, pk1.filter fun x => !decide (x.1 = f1)⟩ ++ [(D, .lst (gs.map V.ref))]) _ := w4.set 1 rfl (.dK (pkK (pk1.filter fun x => !decide (x.1 = f1))))
      have hlt : (pk1.filter fun x => !decide (x.1 = f1)).length < pk1.length := by
        rw [← List.countP_eq_length_filter]
        refine Nat.lt_of_le_of_ne List.countP_le_length fun e => ?_
        have := List.countP_eq_length.mp e x hx
        rw [ex] at this
        simp at this
      refine rd_app (w5.mem (p := D) (.tail _ (.tail _ (.head _)))) (by rw [List.length_map]; omega) ?_
      have w6 : Own H B [p, d] B1 (rvcells T.C_UpperReceiver p dx d ⟨s'.bits, f1, pk1.filter fun x => !decide (x.1 = f1)⟩ ++ [(D, .lst ((gs ++ [x.2.1]).map V.ref))]) _ := w5.set 2 rfl (.lst ((gs ++ [x.2.1]).map V.ref))
      rw [snocR]
      have hp6 := w6.mem (p := p) (.head _)
      (repeat walk_at "rd")
      refine rd_putF hp6 (by exact Nat.le_of_ble_eq_true rfl) rfl ?_
      have w7 : Own H B [p, d] B1 (rvcells T.C_UpperReceiver p dx d ⟨s'.bits, f1 + 1, pk1.filter fun x => !decide (x.1 = f1)⟩ ++ [(D, .lst ((gs ++ [x.2.1]).map V.ref))]) _ := w6.set 0 rfl (.ins T.C_UpperReceiver dx (UrS.fs ⟨s'.bits, f1 + 1, pk1.filter fun x => !decide (x.1 = f1)⟩ d))
      have hd7 := w7.mem (p := d) (.tail _ (.head _))
      refine ⟨.a ⟨f1 + 1, _, gs ++ [x.2.1], w7, by omega, ?_, ?_, ?_, fun m h1 h2 => ?_, rfl⟩, ?_⟩
      · rw [List.length_append, List.length_singleton]
        omega
      · rw [epk, List.filter_filter]
        refine List.filter_congr fun y _ => ?_
        by_cases h5 : f1 + 1 ≤ y.1
        · rw [decide_eq_true h5, decide_eq_true (show f1 ≤ y.1 by omega), decide_eq_false (show ¬ y.1 = f1 by omega)]
          rfl
        · rw [decide_eq_false h5]
          by_cases h6 : y.1 = f1
          · rw [decide_eq_true h6]
            rfl
          · rw [decide_eq_false (show ¬ f1 ≤ y.1 by omega)]
            simp
      · have e1 : (f1 + 1 - s'.first).toNat = (f1 - s'.first).toNat + 1 := by omega
        rw [e1, fromP_succ]
        have e2 : s'.first + ((f1 - s'.first).toNat : Int) = f1 := by omega
        rw [e2]
        refine hgs.snoc ?_
        have h8 := hpk1 x hx
        rw [hP1 x hx, ex] at h8
        exact h8
      · by_cases h5 : m < f1
        · exact hgv m h1 h5
        · have e : m = f1 := by omega
          rw [e]
          exact ((hk1 f1).mp h3).2
      · refine Nat.lt_of_le_of_lt (Nat.le_of_eq (congrArg dlenU hd7)) (Nat.lt_of_lt_of_le ?_ (Nat.le_of_eq (congrArg dlenU hd4).symm))
        show (pkK (pk1.filter fun x => !decide (x.1 = f1))).length < (pkK pk1).length
        unfold pkK
        rw [List.length_map, List.length_map]
        exact hlt
    · (repeat walk_at "rd")
      obtain ⟨B8, sB8, hB8, w8⟩ := ((w4.perm (List.perm_append_comm (l₁ := [(D, HO.lst (gs.map V.ref))]))).ice (show H D = none from hDn))
      refine q B8 _ D gs ⟨s'.bits, f1, pk1⟩ w8 hB8 (hgs.mono sB8) ⟨⟨ok.b, nd1, fun m hm => ?_, ?_⟩, rfl, hf1, fun m => ?_, fun m h5 h6 => ?_, ?_⟩ (hpk1.mono sB8) hP1
      · have h5 := (hk1 m).mp hm
        have h5' := h5.1
        show f1 < m
        have : m ≠ f1 := fun e => h3 (e ▸ hm)
        omega
      · show 0 ≤ f1
        have := ok.f0
        omega
      · show m ∈ pk1.map Prod.fst ↔ f1 ≤ m ∧ _
        refine (hk1 m).trans ⟨fun h5 => ⟨h5.1, ((ks2 m).mp h5.2).elim .inl fun e => .inr ⟨e, by omega⟩⟩, fun h5 => ⟨h5.1, (ks2 m).mpr (h5.2.elim .inl fun e => .inr e.1)⟩⟩
      · exact (ks2 m).mp (hgv m h5 h6)
      · show pk1.length ≤ _
        omega
/-- the count that a short one is read as -/
def rdV (f sh b : Int) : Int := f - 2 ^ (b - 1).toNat + (sh - (f - 2 ^ (b - 1).toNat)) % 2 ^ b.toNat
def sp_UpperReceiver_take (K : PySem.W.Frag) (C : Addr) : Sp := fun vs H Q _ => ∃ (p dx d : Addr) (s : UrS) (B : Hp) (sh : Int) (a : Addr) (P : Int → List Int), vs = [.ref p, .int sh, .ref a] ∧ Cells H B (rvcells C p dx d s) ∧ UrOk s ∧ PkAt B s.pk ∧ CntP P s.pk ∧ s.pk.length ≤ 10000 ∧
  (rdV s.first sh s.bits < 0 → NewO (.lst []) H Q) ∧
  (0 ≤ rdV s.first sh s.bits → SqL K H a ((P (rdV s.first sh s.bits)).map V.int) ∧ ∀ (B' H' : Hp) (D : Addr) (gs : List Addr) (s' : UrS), Own H B [p, d] B' (rvcells C p dx d s') H' → B' D = some (.lst (gs.map V.ref)) → LLs B' gs (fromP P s.first (s'.first - s.first).toNat) → UrTook s (rdV s.first sh s.bits) s' → PkAt B' s'.pk → CntP P s'.pk → Q (.ref D) H')
@[irreducible] def ip_UpperReceiver_take (K : PySem.W.Frag) (C : Addr) : Sp := sp_UpperReceiver_take K C
theorem op_UpperReceiver_take {K : PySem.W.Frag} {C : Addr} {vs : List V} {H : Hp} {Q : VK} {E : XK} (h : sp_UpperReceiver_take K C vs H Q E) : ip_UpperReceiver_take K C vs H Q E := by
  unfold ip_UpperReceiver_take
  exact h
theorem un_UpperReceiver_take {K : PySem.W.Frag} {C : Addr} {vs : List V} {H : Hp} {Q : VK} {E : XK} (h : ip_UpperReceiver_take K C vs H Q E) : sp_UpperReceiver_take K C vs H Q E := by
  unfold ip_UpperReceiver_take at h
  exact h
theorem ok_UpperReceiver_take (T : Tx P w K mg base) : FnOk P w K mg base CX0 4 T.a_UpperReceiver_take T.d_UpperReceiver_take ["self", "short", "packet"] (ip_UpperReceiver_take K T.C_UpperReceiver) := by
  have G_count_near := ok_count_near T
  have G_UpperReceiver_take_count := ok_UpperReceiver_take_count T
  refine T.p_UpperReceiver_take.F.ok sc_UpperReceiver_take (fun vs H Q E h => ?_) (fun cdv A outer s H vs Q E hr h => ?_)
  · obtain ⟨p, dx, d, s', B, sh, a, P, rfl, c, ok, hpk, hP, hn, q1, q2⟩ := un_UpperReceiver_take h
    rfl
  · obtain ⟨p, dx, d, s', B, sh, a, P, rfl, c, ok, hpk, hP, hn, q1, q2⟩ := un_UpperReceiver_take h
    refine ⟨_, (pss_cons (ps_set (i := 3) sc_UpperReceiver_take.nd rfl (Or.inl rfl) (pe_call G_count_near (hr.mono (by decide)) rfl T.p_count_near.m T.p_count_near.F.kp T.p_count_near.b .nil pass0 (pa_cons (pe_fldM (pv 0) T.k_UpperReceiver.cl T.f_UpperReceiver__first) (pa_cons (pv 1) (pa_cons (pe_fldM (pv 0) T.k_UpperReceiver.cl T.f_UpperReceiver__bits) pa_nil))))) (pss_cons (ps_ifM (pt_cmpR op_isN (pv 3) pe_non (nomark _)) (pss_one (ps_ret (pe_lstM pa_nil))) pss_nil) (pss_one (ps_ret (meth_weak (pe_meth (pe_c (pv 0)) T.k_UpperReceiver.cl T.p_UpperReceiver_take_count.me G_UpperReceiver_take_count (hr.mono (by decide)) T.p_UpperReceiver_take_count.b .nil pass0 (pa_cons (pv 3) (pa_cons (pv 2) pa_nil)))))))), ?_⟩
    have w0 : Own H B [p, d] B (rvcells T.C_UpperReceiver p dx d s') H := c.start
    have hp := w0.mem (p := p) (.head _)
    have hb := ok.b
    (repeat walk_at "rd")
    refine op_count_near ⟨s'.first, sh, s'.bits, rfl, by omega, by omega, ?_⟩
    by_cases h : rdV s'.first sh s'.bits < 0
    · have e : nearV s'.first sh (2 ^ s'.bits.toNat) (2 ^ (s'.bits - 1).toNat) = .non := by
        unfold nearV
        exact if_pos h
      rw [e]
      (repeat walk_at "rd")
      exact q1 h
    · have e : nearV s'.first sh (2 ^ s'.bits.toNat) (2 ^ (s'.bits - 1).toNat) = .int (rdV s'.first sh s'.bits) := by
        unfold nearV
        exact if_neg h
      rw [e]
      obtain ⟨hA, q2⟩ := q2 (by omega)
      (repeat walk_at "rd")
      refine op_UpperReceiver_take_count ⟨p, dx, d, s', B, _, a, P, rfl, c, ok, hpk, hP, hA, hn, fun B' H' D gs s2 w h1 h2 h3 h4 h5 => ?_⟩
      exact q2 B' H' D gs s2 w h1 h2 h3 h4 h5
end
theorem rdV_eq {f c b : Int} (hb : 4 ≤ b ∧ b ≤ 7) (h1 : f - 2 ^ (b - 1).toNat ≤ c) (h2 : c < f + 2 ^ (b - 1).toNat) : rdV f (c % 2 ^ b.toNat) b = c := by
  have h : b = 4 ∨ b = 5 ∨ b = 6 ∨ b = 7 := by omega
  unfold rdV
  rcases h with e | e | e | e <;> subst e
  · have e1 : (2 : Int) ^ (4 - 1 : Int).toNat = 8 := rfl
    have e2 : (2 : Int) ^ (4 : Int).toNat = 16 := rfl
    rw [e1] at h1 h2 ⊢
    rw [e2]
    omega
  · have e1 : (2 : Int) ^ (5 - 1 : Int).toNat = 16 := rfl
    have e2 : (2 : Int) ^ (5 : Int).toNat = 32 := rfl
    rw [e1] at h1 h2 ⊢
    rw [e2]
    omega
  · have e1 : (2 : Int) ^ (6 - 1 : Int).toNat = 32 := rfl
    have e2 : (2 : Int) ^ (6 : Int).toNat = 64 := rfl
    rw [e1] at h1 h2 ⊢
    rw [e2]
    omega
  · have e1 : (2 : Int) ^ (7 - 1 : Int).toNat = 64 := rfl
    have e2 : (2 : Int) ^ (7 : Int).toNat = 128 := rfl
    rw [e1] at h1 h2 ⊢
    rw [e2]
    omega
section
variable {P : Program} {w : World} {K : PySem.W.Frag} {mg : Str → Option Value} {base : Heap}
def sp_UpperReceiver_report (K : PySem.W.Frag) (C : Addr) : Sp := fun vs H Q _ => ∃ (p dx d : Addr) (s : UrS), vs = [.ref p] ∧ H p = some (.ins C dx (s.fs d)) ∧ H d = some (.dK (pkK s.pk)) ∧ s.pk.length ≤ 1000 ∧
  ∀ ys : List Int, ys.Perm (s.pk.map Prod.fst) → ys.Pairwise (· ≤ ·) → ∀ (l t : Addr) (H1 H' : Hp), H l = none → Same H H1 → H1 l = some (.lst (ys.map V.int)) → H1 t = none → Same H1 H' → H' t = some (.tup [.int s.first, .ref l]) → Q (.ref t) H'
@[irreducible] def ip_UpperReceiver_report (K : PySem.W.Frag) (C : Addr) : Sp := sp_UpperReceiver_report K C
theorem op_UpperReceiver_report {K : PySem.W.Frag} {C : Addr} {vs : List V} {H : Hp} {Q : VK} {E : XK} (h : sp_UpperReceiver_report K C vs H Q E) : ip_UpperReceiver_report K C vs H Q E := by
  unfold ip_UpperReceiver_report
  exact h
theorem un_UpperReceiver_report {K : PySem.W.Frag} {C : Addr} {vs : List V} {H : Hp} {Q : VK} {E : XK} (h : ip_UpperReceiver_report K C vs H Q E) : sp_UpperReceiver_report K C vs H Q E := by
  unfold ip_UpperReceiver_report at h
  exact h
theorem ok_UpperReceiver_report (T : Tx P w K mg base) : FnOk P w K mg base CX0 1 T.a_UpperReceiver_report T.d_UpperReceiver_report ["self"] (ip_UpperReceiver_report K T.C_UpperReceiver) := by
  refine T.p_UpperReceiver_report.F.ok sc_UpperReceiver_report (fun vs H Q E h => ?_) (fun cdv A outer s H vs Q E hr h => ?_)
  · obtain ⟨p, dx, d, s', rfl, hp, hd, hn, q⟩ := un_UpperReceiver_report h
    rfl
  · obtain ⟨p, dx, d, s', rfl, hp, hd, hn, q⟩ := un_UpperReceiver_report h
    refine ⟨_, (pss_one (ps_ret (pe_tupM (pa_cons (pe_fldM (pv 0) T.k_UpperReceiver.cl T.f_UpperReceiver__first) (pa_cons (pe_callB (call_sortDBM rfl) (by rfl) T.n_sorted (by decide +kernel) (pa_cons (pe_fldM (pv 0) T.k_UpperReceiver.cl T.f_UpperReceiver__ahead) pa_nil)) pa_nil))))), ?_⟩
    (repeat walk_at "rd")
    refine rd_sortDB hd (pkK_keys _) (fun ys hpm ho => ?_)
    intro l H1 n1 s1 e1
    (repeat walk_at "rd")
    intro t H2 n2 s2 e2
    exact q ys hpm ho l t H1 H2 n1 s1 e1 n2 s2 e2
def sp_UpperReceiver_held (K : PySem.W.Frag) (C : Addr) : Sp := fun vs H Q _ => ∃ (p dx d : Addr) (s : UrS), vs = [.ref p] ∧ H p = some (.ins C dx (s.fs d)) ∧ H d = some (.dK (pkK s.pk)) ∧ UrOk s ∧ PkAt H s.pk ∧ s.pk.length ≤ 1000 ∧
  ∀ k : KX, k.Perm (pkX s.pk) → AscX k → ∀ (D : Addr) (ts qs : List Addr) (H' : Hp), H D = none → IO H D ts qs k H' → Q (.ref D) H'
@[irreducible] def ip_UpperReceiver_held (K : PySem.W.Frag) (C : Addr) : Sp := sp_UpperReceiver_held K C
theorem op_UpperReceiver_held {K : PySem.W.Frag} {C : Addr} {vs : List V} {H : Hp} {Q : VK} {E : XK} (h : sp_UpperReceiver_held K C vs H Q E) : ip_UpperReceiver_held K C vs H Q E := by
  unfold ip_UpperReceiver_held
  exact h
theorem un_UpperReceiver_held {K : PySem.W.Frag} {C : Addr} {vs : List V} {H : Hp} {Q : VK} {E : XK} (h : ip_UpperReceiver_held K C vs H Q E) : sp_UpperReceiver_held K C vs H Q E := by
  unfold ip_UpperReceiver_held at h
  exact h
theorem ok_UpperReceiver_held (T : Tx P w K mg base) : FnOk P w K mg base CX0 2 T.a_UpperReceiver_held T.d_UpperReceiver_held ["self"] (ip_UpperReceiver_held K T.C_UpperReceiver) := by
  have G_u_in_order := ok_u_in_order T
  refine T.p_UpperReceiver_held.F.ok sc_UpperReceiver_held (fun vs H Q E h => ?_) (fun cdv A outer s H vs Q E hr h => ?_)
  · obtain ⟨p, dx, d, s', rfl, hp, hd, ok, hk, hn, q⟩ := un_UpperReceiver_held h
    rfl
  · obtain ⟨p, dx, d, s', rfl, hp, hd, ok, hk, hn, q⟩ := un_UpperReceiver_held h
    refine ⟨_, (pss_one (ps_ret (pe_call G_u_in_order (hr.mono (by decide)) rfl T.p_u_in_order.m T.p_u_in_order.F.kp T.p_u_in_order.b .nil pass0 (pa_cons (pe_fldM (pv 0) T.k_UpperReceiver.cl T.f_UpperReceiver__ahead) pa_nil)))), ?_⟩
    (repeat walk_at "rd")
    refine op_u_in_order ⟨d, s'.pk, rfl, hd, hk, ok.nd, hn, fun k hp ha D ts qs H' hD w => ?_⟩
    exact q k hp ha D ts qs H' hD w
end
/-! covers: the row -/
def stF (s : Int) : Nat → Int
  | 0 => s
  | n + 1 => (48271 * stF s n + 11) % 2147483647
def st0 (k b w c : Int) : Int := (k * 48271 + b * 69621 + w * 40692 + c * 16807 + 1) % 2147483647
def rowF (s : Int) (n : Nat) : List Int := (List.range n).map fun k => stF s (k + 1) / 257 % 256
theorem rowF_len (s : Int) (n : Nat) : (rowF s n).length = n := by
  unfold rowF
  rw [List.length_map, List.length_range]
theorem rowF_ok (s : Int) (n : Nat) : ∀ x ∈ rowF s n, 0 ≤ x ∧ x < 256 := fun x hx => by
  obtain ⟨k, _, rfl⟩ := List.mem_map.mp hx
  omega
theorem rowF_succ (s : Int) (n : Nat) : rowF s (n + 1) = rowF s n ++ [stF s (n + 1) / 257 % 256] := by
  unfold rowF
  rw [List.range_succ, List.map_append]
  rfl
theorem rowF_take (s : Int) {n m : Nat} (h : m ≤ n) : (rowF s n).take m = rowF s m := by
  unfold rowF
  rw [← List.map_take, List.take_range, Nat.min_eq_left h]
section
variable {P : Program} {w : World} {K : PySem.W.Frag} {mg : Str → Option Value} {base : Heap}
def sp_row_of (K : PySem.W.Frag) : Sp := fun vs H Q _ => ∃ k b w c n : Int, vs = [.int k, .int b, .int w, .int c, .int n] ∧ 0 ≤ n ∧ n ≤ 10000 ∧ NewO (.lst ((rowF (st0 k b w c) n.toNat).map V.int)) H Q
@[irreducible] def ip_row_of (K : PySem.W.Frag) : Sp := sp_row_of K
theorem op_row_of {K : PySem.W.Frag} {vs : List V} {H : Hp} {Q : VK} {E : XK} (h : sp_row_of K vs H Q E) : ip_row_of K vs H Q E := by
  unfold ip_row_of
  exact h
theorem un_row_of {K : PySem.W.Frag} {vs : List V} {H : Hp} {Q : VK} {E : XK} (h : ip_row_of K vs H Q E) : sp_row_of K vs H Q E := by
  unfold ip_row_of at h
  exact h
theorem ok_row_of (T : Tx P w K mg base) : FnOk P w K mg base CX0 1 T.a_row_of T.d_row_of ["key", "bearer", "way", "count", "size"] (ip_row_of K) := by
  refine T.p_row_of.F.ok sc_row_of (fun vs H Q E h => ?_) (fun cdv A outer s H vs Q E hr h => ?_)
  · obtain ⟨k, b, w, c, n, rfl, h0, hn, q⟩ := un_row_of h
    rfl
  · obtain ⟨k, b, w, c, n, rfl, h0, hn, q⟩ := un_row_of h
    refine ⟨_, (pss_cons (ps_set (i := 5) sc_row_of.nd rfl (Or.inl rfl) (pe_op op_modM (pe_op op_addM (pe_op op_addM (pe_op op_addM (pe_op op_addM (pe_op op_mulM (pv 0) pe_int) (pe_op op_mulM (pv 1) pe_int)) (pe_op op_mulM (pv 2) pe_int)) (pe_op op_mulM (pv 3) pe_int)) pe_int) (pe_gint rfl T.g_MODULUS))) (pss_cons (ps_set (i := 6) sc_row_of.nd rfl (Or.inl rfl) (pe_lstM pa_nil)) (pss_cons (ps_forR1 PassesOwn.never rfl rfl T.n_range (pa_cons (pv 4) pa_nil) (pg_name (i := 7) sc_row_of.nd rfl (Or.inl rfl)) (pss_cons (ps_set (i := 5) sc_row_of.nd rfl (Or.inl rfl) (pe_op op_modM (pe_op op_addM (pe_op op_mulM pe_int (pv 5)) pe_int) (pe_gint rfl T.g_MODULUS))) (pss_one (ps_expr (pe_app (pv 6) (pe_op op_modM (pe_op op_fdivM (pv 5) pe_int) pe_int)))))) (pss_one (ps_ret (pv 6)))))), ?_⟩
    (repeat walk_at "rd")
    intro p H1 np s1 e1
    refine rd_forR1 ?_
    (repeat walk_at "rd")
    refine ⟨n, fun i σ H' => Stop (Same H H' ∧ H' p = some (.lst ((rowF (st0 k b w c) i).map V.int)) ∧ ∃ x, σ = [some (.int k), some (.int b), some (.int w), some (.int c), some (.int n), some (.int (stF (st0 k b w c) i)), some (.ref p), x]), rfl, ⟨by omega, by omega⟩, .a ⟨s1, e1, _, rfl⟩, fun i σ' H' hi w1 => ?_, fun σ' H' w1 => ?_⟩
    · obtain ⟨sm, ep, x, rfl⟩ := w1.un
      (repeat walk_at "rd")
      refine rd_app ep (by rw [List.length_map, rowF_len]; omega) ?_
      refine .a ⟨same_mut sm np, ?_, _, rfl⟩
      rw [upd_same, rowF_succ, List.map_append]
      rfl
    · obtain ⟨sm, ep, x, rfl⟩ := w1.un
      (repeat walk_at "rd")
      exact q p H' np sm ep
end
/-! bits of bytes -/
def xr (a b : Int) : Int := Builtin.bitXor a b
theorem xr_undo {a b : Int} (ha : 0 ≤ a) (hb : 0 ≤ b) : xr (xr a b) b = a := by
  unfold xr
  rw [Bits.bitXor_pp (Bits.bitXor_nonneg ha hb) hb, Bits.bitXor_pp ha hb, Int.toNat_natCast, Nat.xor_assoc, Nat.xor_self, Nat.xor_zero]
  omega
theorem xr_lt {a b : Int} (n : Nat) (ha : 0 ≤ a ∧ a < ((2 ^ n : Nat) : Int)) (hb : 0 ≤ b ∧ b < ((2 ^ n : Nat) : Int)) : 0 ≤ xr a b ∧ xr a b < ((2 ^ n : Nat) : Int) := by
  refine ⟨Bits.bitXor_nonneg ha.1 hb.1, ?_⟩
  unfold xr
  rw [Bits.bitXor_pp ha.1 hb.1]
  have h := @Nat.xor_lt_two_pow a.toNat b.toNat n (by omega) (by omega)
  omega
theorem xr_byte {a b : Int} (ha : 0 ≤ a ∧ a < 256) (hb : 0 ≤ b ∧ b < 256) : 0 ≤ xr a b ∧ xr a b < 256 := xr_lt 8 ha hb
theorem xr_inj {a b m : Int} (ha : 0 ≤ a) (hb : 0 ≤ b) (hm : 0 ≤ m) (h : xr a m = xr b m) : a = b := by
  rw [← xr_undo ha hm, h, xr_undo hb hm]
def markX (k b w c : Int) : Int := k % 64 * 1024 + b % 4 * 256 + w * 128 + c % 128
def markF (k b w c : Int) : Int := xr (markX k b w c) 23205
def markL (k b w c : Int) : List Int := [markF k b w c / 256, markF k b w c % 256]
def WayOk (w : Int) : Prop := 0 ≤ w ∧ w < 2
theorem markX_ok {k b w c : Int} (h : WayOk w) : 0 ≤ markX k b w c ∧ markX k b w c < 65536 := by
  unfold markX WayOk at *
  omega
theorem markF_ok {k b w c : Int} (h : WayOk w) : 0 ≤ markF k b w c ∧ markF k b w c < 65536 := xr_lt 16 (markX_ok h) (by decide)
theorem markL_ok {k b w c : Int} (h : WayOk w) : ∀ x ∈ markL k b w c, 0 ≤ x ∧ x < 256 := fun x hx => by
  have := @markF_ok k b w c h
  unfold markL at hx
  rcases List.mem_cons.mp hx with e | hx
  · omega
  · have e := List.mem_singleton.mp hx
    omega
def SameMark (k b w c k' b' w' c' : Int) : Prop := k % 64 = k' % 64 ∧ b % 4 = b' % 4 ∧ w = w' ∧ c % 128 = c' % 128
theorem markL_same {k b w c k' b' w' c' : Int} (h : WayOk w) (h' : WayOk w') : markL k b w c = markL k' b' w' c' ↔ SameMark k b w c k' b' w' c' := by
  constructor
  · intro e
    unfold markL at e
    obtain ⟨e1, e2⟩ := List.cons.inj e
    have e3 := (List.cons.inj e2).1
    have em : markF k b w c = markF k' b' w' c' := by omega
    have ex := xr_inj (markX_ok h).1 (markX_ok h').1 (by decide) em
    unfold markX WayOk SameMark at *
    omega
  · rintro ⟨e1, e2, e3, e4⟩
    unfold markL markF markX
    rw [e1, e2, e3, e4]
def withRow (ns ms : List Int) : List Int := (List.range ns.length).map fun i => xr (ns.getD i 0) (ms.getD i 0)
theorem withRow_len (ns ms : List Int) : (withRow ns ms).length = ns.length := by
  unfold withRow
  rw [List.length_map, List.length_range]
theorem getD_ok {ns : List Int} (h : ∀ x ∈ ns, 0 ≤ x ∧ x < 256) (i : Nat) : 0 ≤ ns.getD i 0 ∧ ns.getD i 0 < 256 := by
  rw [List.getD_eq_getElem?_getD]
  cases e : ns[i]? with
  | none => exact ⟨Int.le_refl 0, by decide⟩
  | some x => exact h x (List.mem_of_getElem? e)
theorem withRow_ok {ns ms : List Int} (h : ∀ x ∈ ns, 0 ≤ x ∧ x < 256) (k : ∀ x ∈ ms, 0 ≤ x ∧ x < 256) : ∀ x ∈ withRow ns ms, 0 ≤ x ∧ x < 256 := fun x hx => by
  obtain ⟨i, _, rfl⟩ := List.mem_map.mp hx
  exact xr_byte (getD_ok h i) (getD_ok k i)
theorem withRow_getD {ns ms : List Int} {i : Nat} (h : i < ns.length) : (withRow ns ms).getD i 0 = xr (ns.getD i 0) (ms.getD i 0) := by
  unfold withRow
  rw [List.getD_eq_getElem?_getD, List.getElem?_map, List.getElem?_range h]
  rfl
theorem list_getD {ns ms : List Int} (hl : ns.length = ms.length) (h : ∀ i, i < ns.length → ns.getD i 0 = ms.getD i 0) : ns = ms := by
  apply List.ext_getElem?
  intro i
  by_cases hi : i < ns.length
  · have := h i hi
    rw [List.getD_eq_getElem?_getD, List.getD_eq_getElem?_getD, List.getElem?_eq_getElem hi, List.getElem?_eq_getElem (by omega)] at this
    rw [List.getElem?_eq_getElem hi, List.getElem?_eq_getElem (by omega)]
    exact congrArg some this
  · rw [List.getElem?_eq_none (by omega), List.getElem?_eq_none (by omega)]
theorem withRow_undo {ns ms : List Int} (h : ∀ x ∈ ns, 0 ≤ x ∧ x < 256) (k : ∀ x ∈ ms, 0 ≤ x ∧ x < 256) : withRow (withRow ns ms) ms = ns := by
  refine list_getD (by rw [withRow_len, withRow_len]) fun i hi => ?_
  rw [withRow_len, withRow_len] at hi
  rw [withRow_getD (by rw [withRow_len]; exact hi), withRow_getD hi, xr_undo (getD_ok h i).1 (getD_ok k i).1]
/-- a covered packet; what uncovering gives -/
def covF (k b w c : Int) (ns : List Int) : List Int := withRow ns (rowF (st0 k b w c) ns.length) ++ markL k b w c ++ [ns.sum % 256]
def uncF (k b w c : Int) (cs : List Int) : Option (List Int) :=
  if cs.length < 3 then none
  else if (cs.drop (cs.length - 3)).take 2 = markL k b w c then
    (if cs.getD (cs.length - 1) 0 = (withRow (cs.take (cs.length - 3)) (rowF (st0 k b w c) (cs.length - 3))).sum % 256 then some (withRow (cs.take (cs.length - 3)) (rowF (st0 k b w c) (cs.length - 3))) else none)
  else none
theorem covF_len (k b w c : Int) (ns : List Int) : (covF k b w c ns).length = ns.length + 3 := by
  unfold covF markL
  rw [List.length_append, List.length_append, withRow_len]
  rfl
theorem covF_ok {k b w c : Int} {ns : List Int} (hw : WayOk w) (h : ∀ x ∈ ns, 0 ≤ x ∧ x < 256) : ∀ x ∈ covF k b w c ns, 0 ≤ x ∧ x < 256 := fun x hx => by
  unfold covF at hx
  rcases List.mem_append.mp hx with hx | hx
  · rcases List.mem_append.mp hx with hx | hx
    · exact withRow_ok h (rowF_ok _ _) x hx
    · exact markL_ok hw x hx
  · have e := List.mem_singleton.mp hx
    omega
theorem covF_take (k b w c : Int) (ns : List Int) : (covF k b w c ns).take ns.length = withRow ns (rowF (st0 k b w c) ns.length) := by
  unfold covF
  rw [List.append_assoc, List.take_append_of_le_length (by rw [withRow_len]; exact Nat.le_refl _), List.take_of_length_le (by rw [withRow_len]; exact Nat.le_refl _)]
theorem covF_drop (k b w c : Int) (ns : List Int) : (covF k b w c ns).drop ns.length = markL k b w c ++ [ns.sum % 256] := by
  unfold covF
  rw [List.append_assoc, List.drop_append, List.drop_of_length_le (by rw [withRow_len]; exact Nat.le_refl _), withRow_len, Nat.sub_self, List.drop_zero]
  rfl
theorem covF_last (k b w c : Int) (ns : List Int) : (covF k b w c ns).getD (ns.length + 2) 0 = ns.sum % 256 := by
  have e := covF_drop k b w c ns
  have e2 : ((covF k b w c ns).drop ns.length)[2]? = some (ns.sum % 256) := by rw [e]; rfl
  rw [List.getElem?_drop] at e2
  rw [List.getD_eq_getElem?_getD, e2]
  rfl
theorem unc_cov {k b w c : Int} {ns : List Int} (h : ∀ x ∈ ns, 0 ≤ x ∧ x < 256) : uncF k b w c (covF k b w c ns) = some ns := by
  unfold uncF
  have e3 : ns.length + 3 - 3 = ns.length := by omega
  have e1 : ns.length + 3 - 1 = ns.length + 2 := by omega
  rw [covF_len, if_neg (by omega), e3, e1, covF_drop, if_pos (by unfold markL; rfl), covF_take, withRow_undo h (rowF_ok _ _), covF_last, if_pos rfl]
theorem unc_other {k b w c k' b' w' c' : Int} {ns : List Int} (hw : WayOk w) (hw' : WayOk w') (n : ¬ SameMark k b w c k' b' w' c') : uncF k' b' w' c' (covF k b w c ns) = none := by
  unfold uncF
  have e3 : ns.length + 3 - 3 = ns.length := by omega
  rw [covF_len, if_neg (by omega), e3, covF_drop, if_neg]
  intro e
  exact n ((markL_same hw hw').mp e)
section
variable {P : Program} {w : World} {K : PySem.W.Frag} {mg : Str → Option Value} {base : Heap}
def sp_mark_of (K : PySem.W.Frag) : Sp := fun vs H Q _ => ∃ k b w c : Int, vs = [.int k, .int b, .int w, .int c] ∧ NewO (.lst ((markL k b w c).map V.int)) H Q
@[irreducible] def ip_mark_of (K : PySem.W.Frag) : Sp := sp_mark_of K
theorem op_mark_of {K : PySem.W.Frag} {vs : List V} {H : Hp} {Q : VK} {E : XK} (h : sp_mark_of K vs H Q E) : ip_mark_of K vs H Q E := by
  unfold ip_mark_of
  exact h
theorem un_mark_of {K : PySem.W.Frag} {vs : List V} {H : Hp} {Q : VK} {E : XK} (h : ip_mark_of K vs H Q E) : sp_mark_of K vs H Q E := by
  unfold ip_mark_of at h
  exact h
theorem ok_mark_of (T : Tx P w K mg base) : FnOk P w K mg base CX0 1 T.a_mark_of T.d_mark_of ["key", "bearer", "way", "count"] (ip_mark_of K) := by
  refine T.p_mark_of.F.ok sc_mark_of (fun vs H Q E h => ?_) (fun cdv A outer s H vs Q E hr h => ?_)
  · obtain ⟨k, b, w, c, rfl, q⟩ := un_mark_of h
    rfl
  · obtain ⟨k, b, w, c, rfl, q⟩ := un_mark_of h
    refine ⟨_, (pss_cons (ps_set (i := 4) sc_mark_of.nd rfl (Or.inl rfl) (pe_op op_bxorM (pe_op op_addM (pe_op op_addM (pe_op op_addM (pe_op op_mulM (pe_op op_modM (pv 0) pe_int) pe_int) (pe_op op_mulM (pe_op op_modM (pv 1) pe_int) pe_int)) (pe_op op_mulM (pv 2) pe_int)) (pe_op op_modM (pv 3) pe_int)) (pe_gint rfl T.g_MARK_MASK))) (pss_one (ps_ret (pe_lstM (pa_cons (pe_op op_fdivM (pv 4) pe_int) (pa_cons (pe_op op_modM (pv 4) pe_int) pa_nil)))))), ?_⟩
    (repeat walk_at "rd")
    exact q
def sp_u_with_row (K : PySem.W.Frag) : Sp := fun vs H Q _ => ∃ (a d : Addr) (ms ns : List Int), vs = [.ref a, .ref d] ∧ SqL K H a (ms.map V.int) ∧ SqL K H d (ns.map V.int) ∧ ms.length = ns.length ∧ ns.length ≤ 10000 ∧ NewO (.lst ((withRow ns ms).map V.int)) H Q
theorem filt_true {n : Nat} : (List.range n).filter (fun _ => true) = List.range n := List.filter_eq_self.mpr fun _ _ => rfl
@[irreducible] def ip_u_with_row (K : PySem.W.Frag) : Sp := sp_u_with_row K
theorem op_u_with_row {K : PySem.W.Frag} {vs : List V} {H : Hp} {Q : VK} {E : XK} (h : sp_u_with_row K vs H Q E) : ip_u_with_row K vs H Q E := by
  unfold ip_u_with_row
  exact h
theorem un_u_with_row {K : PySem.W.Frag} {vs : List V} {H : Hp} {Q : VK} {E : XK} (h : ip_u_with_row K vs H Q E) : sp_u_with_row K vs H Q E := by
  unfold ip_u_with_row at h
  exact h
theorem ok_u_with_row (T : Tx P w K mg base) : FnOk P w K mg base CX0 1 T.a_u_with_row T.d_u_with_row ["row", "packet"] (ip_u_with_row K) := by
  refine T.p_u_with_row.F.ok sc_u_with_row (fun vs H Q E h => ?_) (fun cdv A outer s H vs Q E hr h => ?_)
  · obtain ⟨a, d, ms, ns, rfl, hM, hN, hl, hn, q⟩ := un_u_with_row h
    rfl
  · obtain ⟨a, d, ms, ns, rfl, hM, hN, hl, hn, q⟩ := un_u_with_row h
    refine ⟨_, (pss_one (ps_ret (pe_lcP (own := [("one", 2), ("other", 3)]) (g := (gTup K 2 (gCons (gName 2) (gCons (gName 3) gNil)))) [2, 3] im_zip rfl sc_u_with_row.nd (pi_zip (by rfl) T.n_zip (pa_c (pa_cons (pv 1) (pa_cons (pv 0) pa_nil)))) (blkOk_by (own := [("one", 2), ("other", 3)]) (N := ["row", "packet", "one", "other"]) (sc := defScope S_u_with_row) (by decide +kernel)) (fun _ _ _ _ _ => (pg_tup rfl (pgs_cons (pg_name (i := 2) sc_u_with_row.nd rfl (Or.inl rfl)) (pgs_cons (pg_name (i := 3) sc_u_with_row.nd rfl (Or.inl rfl)) pgs_nil)))) (fun _ _ _ _ _ => pts_nil) (fun _ _ _ _ _ => (pe_op op_bxorM (pv 2) (pv 3)))))), ?_⟩
    refine rd_lcP ?_
    (repeat walk_at "rd")
    refine ⟨_, _, _, _, rfl, hN, hM, ?_⟩
    refine ⟨ns.length, _, _, fun _ => true, fun i => V.int (xr (ns.getD i 0) (ms.getD i 0)), walk_zip (by rw [List.length_map, List.length_map]; omega), by omega, fun H' s => ⟨s.seq hN, s.seq hM⟩, fun D hD i x H' H'' hi p y => ?_, ?_⟩
    · obtain ⟨t, x1, x2, rfl, hT, rfl, h1, h2⟩ := y
      dsimp only at h1 h2
      rw [List.getElem?_map] at h1 h2
      obtain ⟨k1, hk1, rfl⟩ := Option.map_eq_some_iff.mp h1
      obtain ⟨k2, hk2, rfl⟩ := Option.map_eq_some_iff.mp h2
      refine ⟨t, _, rfl, st_of upd_same, rfl, _, _, rfl, _, _, rfl, rfl, wipe2 (by decide), ?_⟩
      (repeat walk_at "rd")
      refine p.put hD (by omega) (same_upd hT) rfl ?_
      rw [List.getD_eq_getElem?_getD, List.getD_eq_getElem?_getD, hk1, hk2]
      rfl
    · intro p1 H1 n1 s1 e1
      refine q p1 H1 n1 s1 ?_
      rw [e1, filt_true]
      unfold withRow
      rw [List.map_map]
      rfl
def sp_cover (K : PySem.W.Frag) : Sp := fun vs H Q _ => ∃ (k b w c : Int) (a : Addr) (ns : List Int), vs = [.int k, .int b, .int w, .int c, .ref a] ∧ SqL K H a (ns.map V.int) ∧ ns.length ≤ 5000 ∧ NewO (.lst ((covF k b w c ns).map V.int)) H Q
@[irreducible] def ip_cover (K : PySem.W.Frag) : Sp := sp_cover K
theorem op_cover {K : PySem.W.Frag} {vs : List V} {H : Hp} {Q : VK} {E : XK} (h : sp_cover K vs H Q E) : ip_cover K vs H Q E := by
  unfold ip_cover
  exact h
theorem un_cover {K : PySem.W.Frag} {vs : List V} {H : Hp} {Q : VK} {E : XK} (h : ip_cover K vs H Q E) : sp_cover K vs H Q E := by
  unfold ip_cover at h
  exact h
theorem ok_cover (T : Tx P w K mg base) : FnOk P w K mg base CX0 2 T.a_cover T.d_cover ["key", "bearer", "way", "count", "packet"] (ip_cover K) := by
  have G_row_of := ok_row_of T
  have G_u_with_row := ok_u_with_row T
  have G_mark_of := ok_mark_of T
  refine T.p_cover.F.ok sc_cover (fun vs H Q E h => ?_) (fun cdv A outer s H vs Q E hr h => ?_)
  · obtain ⟨k, b, w, c, a, ns, rfl, hS, hn, q⟩ := un_cover h
    rfl
  · obtain ⟨k, b, w, c, a, ns, rfl, hS, hn, q⟩ := un_cover h
    refine ⟨_, (pss_cons (ps_set (i := 5) sc_cover.nd rfl (Or.inl rfl) (pe_call G_row_of (hr.mono (by decide)) rfl T.p_row_of.m T.p_row_of.F.kp T.p_row_of.b .nil pass0 (pa_cons (pv 0) (pa_cons (pv 1) (pa_cons (pv 2) (pa_cons (pv 3) (pa_cons (pe_callB call_lenM (by rfl) T.n_len PySem.boot_len (pa_cons (pv 4) pa_nil)) pa_nil))))))) (pss_one (ps_ret (pe_op op_catM (pe_op op_catM (pe_call G_u_with_row (hr.mono (by decide)) rfl T.p_u_with_row.m T.p_u_with_row.F.kp T.p_u_with_row.b .nil pass0 (pa_cons (pv 5) (pa_cons (pv 4) pa_nil))) (pe_call G_mark_of (hr.mono (by decide)) rfl T.p_mark_of.m T.p_mark_of.F.kp T.p_mark_of.b .nil pass0 (pa_cons (pv 0) (pa_cons (pv 1) (pa_cons (pv 2) (pa_cons (pv 3) pa_nil)))))) (pe_lstM (pa_cons (pe_op op_modM (pe_callB (call_sumM rfl) (by rfl) T.n_sum (by decide +kernel) (pa_cons (pv 4) pa_nil)) pe_int) pa_nil)))))), ?_⟩
    (repeat walk_at "rd")
    refine op_row_of ⟨k, b, w, c, _, rfl, by omega, by omega, fun p1 H1 n1 s1 e1 => ?_⟩
    (repeat walk_at "rd")
    refine op_u_with_row ⟨p1, a, _, ns, rfl, (by walk_at "sq"), (by walk_at "sq"), by rw [rowF_len]; omega, by omega, fun p2 H2 n2 s2 e2 => ?_⟩
    (repeat walk_at "rd")
    refine op_mark_of ⟨k, b, w, c, rfl, fun p3 H3 n3 s3 e3 => ?_⟩
    (repeat walk_at "rd")
    refine rd_cat (by walk_at "hp") (by walk_at "hp") (by rw [List.length_map, List.length_map, withRow_len]; show _ + 2 ≤ _; omega) ?_
    intro p4 H4 n4 s4 e4
    (repeat walk_at "rd")
    intro p5 H5 n5 s5 e5
    (repeat walk_at "rd")
    refine rd_cat (by walk_at "hp") (by walk_at "hp") (by rw [List.length_append, List.length_map, List.length_map, withRow_len]; show _ + 2 + 1 ≤ _; omega) ?_
    intro p6 H6 n6 s6 e6
    refine q p6 H6 (by walk_at "nn") (by walk_at "sm") ?_
    rw [e6, Int.toNat_natCast]
    unfold covF
    rw [List.map_append, List.map_append]
    rfl
def sp_uncover (K : PySem.W.Frag) : Sp := fun vs H Q _ => ∃ (k b w c : Int) (a : Addr) (cs : List Int), vs = [.int k, .int b, .int w, .int c, .ref a] ∧ SqL K H a (cs.map V.int) ∧ cs.length ≤ 5000 ∧ (uncF k b w c cs = none → ∀ H', Same H H' → Q .non H') ∧ ∀ ns, uncF k b w c cs = some ns → NewO (.lst (ns.map V.int)) H Q
@[irreducible] def ip_uncover (K : PySem.W.Frag) : Sp := sp_uncover K
theorem op_uncover {K : PySem.W.Frag} {vs : List V} {H : Hp} {Q : VK} {E : XK} (h : sp_uncover K vs H Q E) : ip_uncover K vs H Q E := by
  unfold ip_uncover
  exact h
theorem un_uncover {K : PySem.W.Frag} {vs : List V} {H : Hp} {Q : VK} {E : XK} (h : ip_uncover K vs H Q E) : sp_uncover K vs H Q E := by
  unfold ip_uncover at h
  exact h
theorem ok_uncover (T : Tx P w K mg base) : FnOk P w K mg base CX0 2 T.a_uncover T.d_uncover ["key", "bearer", "way", "count", "covered"] (ip_uncover K) := by
  have G_u_with_row := ok_u_with_row T
  have G_row_of := ok_row_of T
  have G_mark_of := ok_mark_of T
  refine T.p_uncover.F.ok sc_uncover (fun vs H Q E h => ?_) (fun cdv A outer s H vs Q E hr h => ?_)
  · obtain ⟨k, b, w, c, a, cs, rfl, hS, hn, q1, q2⟩ := un_uncover h
    rfl
  · obtain ⟨k, b, w, c, a, cs, rfl, hS, hn, q1, q2⟩ := un_uncover h
    refine ⟨_, (pss_cons (ps_set (i := 5) sc_uncover.nd rfl (Or.inl rfl) (pe_op op_subM (pe_callB call_lenM (by rfl) T.n_len PySem.boot_len (pa_cons (pv 4) pa_nil)) (pe_gint rfl T.g_TAIL_BYTES))) (pss_cons (ps_ifM (PW.pt (pw_orM (pt_cmpR op_ltM (pv 5) pe_int (nomark _)) (pw_or1 (pt_cmpR (op_neDM hr.units) (pe_slice sl_listM (pv 4) (po_some (pv 5)) (po_some (pe_un un_neg pe_int))) (pe_call G_mark_of (hr.mono (by decide)) rfl T.p_mark_of.m T.p_mark_of.F.kp T.p_mark_of.b .nil pass0 (pa_cons (pv 0) (pa_cons (pv 1) (pa_cons (pv 2) (pa_cons (pv 3) pa_nil))))) (nomark _))))) (pss_one (ps_ret pe_non)) pss_nil) (pss_cons (ps_set (i := 6) sc_uncover.nd rfl (Or.inl rfl) (pe_call G_u_with_row (hr.mono (by decide)) rfl T.p_u_with_row.m T.p_u_with_row.F.kp T.p_u_with_row.b .nil pass0 (pa_cons (pe_call G_row_of (hr.mono (by decide)) rfl T.p_row_of.m T.p_row_of.F.kp T.p_row_of.b .nil pass0 (pa_cons (pv 0) (pa_cons (pv 1) (pa_cons (pv 2) (pa_cons (pv 3) (pa_cons (pv 5) pa_nil)))))) (pa_cons (pe_slice sl_listM (pv 4) po_none (po_some (pv 5))) pa_nil)))) (pss_cons (ps_ifM (pt_cmpR op_ne (pe_ix ix_listM (pv 4) (pe_un un_neg pe_int) (fun _ _ => rfl)) (pe_op op_modM (pe_callB (call_sumM rfl) (by rfl) T.n_sum (by decide +kernel) (pa_cons (pv 6) pa_nil)) pe_int) (nomark _)) (pss_one (ps_ret pe_non)) pss_nil) (pss_one (ps_ret (pv 6))))))), ?_⟩
    (repeat walk_at "rd")
    refine br_by (fun h => ?_) (fun h => ?_)
    · (repeat walk_at "rd")
      refine q1 ?_ _ (Same.refl _)
      unfold uncF
      rw [if_pos (by omega)]
    · have e3 : ((cs.length : Int) - 3).toNat = cs.length - 3 := by omega
      (repeat walk_at "rd")
      refine rd_sl (by walk_at "sq") ?_
      intro p1 H1 n1 s1 e1
      (repeat walk_at "rd")
      refine op_mark_of ⟨k, b, w, c, rfl, fun p2 H2 n2 s2 e2 => ?_⟩
      (repeat walk_at "rd")
      rw [cutX_butLast (by omega), List.length_map, e3, ← List.map_drop, ← List.map_take] at e1
      have e2' : cs.length - 1 - (cs.length - 3) = 2 := by omega
      rw [e2'] at e1
      refine rd_neI (by walk_at "sq") (by walk_at "sq") ?_
      (repeat walk_at "rd")
      refine br_nby (fun hm => ?_) (fun hm => ?_)
      · (repeat walk_at "rd")
        refine q1 ?_ _ (by walk_at "sm")
        unfold uncF
        rw [if_neg (by omega), if_neg hm]
      · (repeat walk_at "rd")
        refine op_row_of ⟨k, b, w, c, _, rfl, by omega, by omega, fun p3 H3 n3 s3 e4 => ?_⟩
        (repeat walk_at "rd")
        refine rd_sl (by walk_at "sq") ?_
        intro p4 H4 n4 s4 e5
        rw [cutX_to (by omega), e3, ← List.map_take] at e5
        rw [e3] at e4
        (repeat walk_at "rd")
        refine op_u_with_row ⟨p3, p4, _, _, rfl, (by walk_at "sq"), (by walk_at "sq"), by rw [rowF_len, List.length_take]; omega, by rw [List.length_take]; omega, fun p5 H5 n5 s5 e6 => ?_⟩
        have el : cs.getD (cs.length - 1) 0 = (withRow (cs.take (cs.length - 3)) (rowF (st0 k b w c) (cs.length - 3))).sum % 256 → uncF k b w c cs = some (withRow (cs.take (cs.length - 3)) (rowF (st0 k b w c) (cs.length - 3))) := fun z => by
          unfold uncF
          rw [if_neg (by omega), if_pos hm, if_pos z]
        have en : ¬ cs.getD (cs.length - 1) 0 = (withRow (cs.take (cs.length - 3)) (rowF (st0 k b w c) (cs.length - 3))).sum % 256 → uncF k b w c cs = none := fun z => by
          unfold uncF
          rw [if_neg (by omega), if_pos hm, if_neg z]
        have hat : atI (cs.map V.int) (-1) = some (.int (cs.getD (cs.length - 1) 0)) := at_last (by omega)
        (repeat walk_at "rd")
        refine rd_ixL (by walk_at "sq") hat ?_
        (repeat walk_at "rd")
        refine br_enby (fun hz => ?_) (fun hz => ?_)
        · (repeat walk_at "rd")
          exact q1 (en hz) _ (by walk_at "sm")
        · (repeat walk_at "rd")
          exact q2 _ (el hz) _ _ (by walk_at "nn") (by walk_at "sm") e6
end
/-! a sender and a receiver beside each other -/
def pssP (pss : List (List Int)) (c : Int) : List Int := pss.getD c.toNat []
theorem UsS.base_mem (s : UsS) : s.base ∈ s.pk.map Prod.fst ∨ (s.pk = [] ∧ s.base = s.nx) := by
  obtain ⟨b, nx, pk⟩ := s
  cases pk with
  | nil => exact .inr ⟨rfl, rfl⟩
  | cons x r => exact .inl (.head _)
theorem UsOk.base_le {s : UsS} (h : UsOk s) : ∀ n ∈ s.pk.map Prod.fst, s.base ≤ n := by
  obtain ⟨b, nx, pk⟩ := s
  cases pk with
  | nil => exact fun n hn => (nomatch hn)
  | cons x r =>
    intro n hn
    have asc := List.pairwise_cons.mp h.asc
    show x.1 ≤ n
    rcases List.mem_cons.mp hn with e | e
    · rw [e]
      exact Int.le_refl _
    · have h1 : x.1 < n := asc.1 n e
      omega
theorem UsOk.base_nx {s : UsS} (h : UsOk s) : 0 ≤ s.base ∧ s.base ≤ s.nx := by
  rcases s.base_mem with e | ⟨_, e⟩
  · have := h.lt _ e
    omega
  · have := h.n0
    omega
theorem UsOk.keep_base {s : UsS} (h : UsOk s) (f : Int → Bool) : s.base ≤ (s.keep f).base := by
  rcases (s.keep f).base_mem with e | ⟨_, e⟩
  · have h2 : (s.keep f).base ∈ (s.pk.filter fun x => f x.1).map Prod.fst := e
    rw [keep_keys] at h2
    exact h.base_le _ (List.mem_filter.mp h2).1
  · rw [e]
    exact h.base_nx.2
structure PrOk (us : UsS) (ur : UrS) (pss : List (List Int)) : Prop where
  uok : UsOk us
  rok : UrOk ur
  eb : us.bits = ur.bits
  nx : us.nx = (pss.length : Int)
  cu : CntP (pssP pss) us.pk
  cr : CntP (pssP pss) ur.pk
  cf : ∀ c, 0 ≤ c → c < us.nx → c ∉ us.pk.map Prod.fst → c < ur.first ∨ c ∈ ur.pk.map Prod.fst
  rb : ur.first ≤ us.nx
  rk : ∀ c ∈ ur.pk.map Prod.fst, c < us.nx
  win : us.nx - us.base ≤ 2 ^ (us.bits - 1).toNat
theorem PrOk.base_first {us : UsS} {ur : UrS} {pss : List (List Int)} (h : PrOk us ur pss) : us.base ≤ ur.first := by
  have hb := h.uok.base_nx
  by_cases hx : us.base ≤ ur.first
  · exact hx
  · have h0 := h.rok.f0
    have hn : ur.first ∉ us.pk.map Prod.fst := fun z => by
      have := h.uok.base_le _ z
      omega
    rcases h.cf ur.first h0 (by omega) hn with h1 | h1
    · omega
    · have := h.rok.gt _ h1
      omega
theorem PrOk.reads {us : UsS} {ur : UrS} {pss : List (List Int)} (h : PrOk us ur pss) {n : Int} (hn : n ∈ us.pk.map Prod.fst) : rdV ur.first (n % 2 ^ ur.bits.toNat) ur.bits = n := by
  have h1 := h.base_first
  have h2 := h.win
  have h3 := h.uok.base_le n hn
  have h4 := (h.uok.lt n hn).2
  have h5 := h.rb
  rw [h.eb] at h2
  refine rdV_eq h.rok.b ?_ ?_ <;> omega
theorem pssP_old {pss : List (List Int)} {x : List Int} {c : Int} (h0 : 0 ≤ c) (h : c < (pss.length : Int)) : pssP (pss ++ [x]) c = pssP pss c := by
  unfold pssP
  rw [List.getD_eq_getElem?_getD, List.getD_eq_getElem?_getD, List.getElem?_append_left (by omega)]
theorem pssP_new {pss : List (List Int)} {x : List Int} : pssP (pss ++ [x]) (pss.length : Int) = x := by
  unfold pssP
  rw [List.getD_eq_getElem?_getD, Int.toNat_natCast, List.getElem?_append_right (Nat.le_refl _), Nat.sub_self]
  rfl
theorem PrOk.add {us : UsS} {ur : UrS} {pss : List (List Int)} (h : PrOk us ur pss) (hw : us.nx - us.base < 2 ^ (us.bits - 1).toNat) (q : Addr) (x : List Int) : PrOk (us.put q x) ur (pss ++ [x]) where
  uok := h.uok.put q x
  rok := h.rok
  eb := h.eb
  nx := by
    show us.nx + 1 = _
    rw [List.length_append, h.nx]
    rfl
  cu := fun y hy => by
    have hy2 : y ∈ us.pk ++ [(us.nx, q, x)] := hy
    rcases List.mem_append.mp hy2 with z | z
    · have hl := h.uok.lt _ (List.mem_map.mpr ⟨y, z, rfl⟩)
      rw [h.cu y z, pssP_old hl.1 (by rw [← h.nx]; exact hl.2)]
    · rw [List.mem_singleton.mp z]
      show x = pssP (pss ++ [x]) us.nx
      rw [h.nx, pssP_new]
  cr := fun y hy => by
    have h1 := h.rk _ (List.mem_map.mpr ⟨y, hy, rfl⟩)
    have h2 := h.rok.gt _ (List.mem_map.mpr ⟨y, hy, rfl⟩)
    have h3 := h.rok.f0
    rw [h.cr y hy, pssP_old (by omega) (by rw [← h.nx]; exact h1)]
  cf := fun c h0 h1 h2 => by
    have h1' : c < us.nx + 1 := h1
    have h2' : c ∉ (us.pk ++ [(us.nx, q, x)]).map Prod.fst := h2
    rw [List.map_append] at h2'
    refine h.cf c h0 ?_ fun z => h2' (List.mem_append_left _ z)
    by_cases e : c = us.nx
    · exact absurd (List.mem_append_right _ (by rw [e]; exact .head _)) h2'
    · omega
  rb := by
    show ur.first ≤ us.nx + 1
    have := h.rb
    omega
  rk := fun c hc => by
    show c < us.nx + 1
    have := h.rk c hc
    omega
  win := by
    show us.nx + 1 - (us.put q x).base ≤ 2 ^ (us.bits - 1).toNat
    have hb : (us.put q x).base = us.base := by
      obtain ⟨b, nx, pk⟩ := us
      cases pk with
      | nil => rfl
      | cons y r => rfl
    rw [hb]
    omega
theorem PrOk.took {us : UsS} {ur ur' : UrS} {pss : List (List Int)} {n : Int} (h : PrOk us ur pss) (hn : n ∈ us.pk.map Prod.fst) (t : UrTook ur n ur') (hc : CntP (pssP pss) ur'.pk) : PrOk us ur' pss where
  uok := h.uok
  rok := t.ok
  eb := h.eb.trans t.eb.symm
  nx := h.nx
  cu := h.cu
  cr := hc
  cf := fun c h0 h1 h2 => by
    by_cases h3 : c < ur'.first
    · exact .inl h3
    · refine .inr ((t.ks c).mpr ⟨by omega, .inl ?_⟩)
      rcases h.cf c h0 h1 h2 with h4 | h4
      · have := t.le
        omega
      · exact h4
  rb := by
    have hl := (h.uok.lt n hn).2
    by_cases h3 : ur'.first ≤ ur.first
    · have := h.rb
      omega
    · rcases t.given (ur'.first - 1) (by omega) (by omega) with h4 | h4
      · have := h.rk _ h4
        omega
      · omega
  rk := fun c hc => by
    have hl := (h.uok.lt n hn).2
    rcases ((t.ks c).mp hc).2 with h4 | h4
    · exact h.rk c h4
    · omega
  win := h.win
/-- what a report says has come -/
def RepIn (f : Int) (ls : List Int) (ur : UrS) : Prop := f ≤ ur.first ∧ ∀ c ∈ ls, c < ur.first ∨ c ∈ ur.pk.map Prod.fst
theorem RepIn.took {f : Int} {ls : List Int} {ur ur' : UrS} {n : Int} (h : RepIn f ls ur) (t : UrTook ur n ur') : RepIn f ls ur' := by
  have hl := t.le
  refine ⟨by have := h.1; omega, fun c hc => ?_⟩
  by_cases h3 : c < ur'.first
  · exact .inl h3
  · refine .inr ((t.ks c).mpr ⟨by omega, .inl ?_⟩)
    rcases h.2 c hc with h4 | h4
    · omega
    · exact h4
theorem PrOk.rep {us : UsS} {ur : UrS} {pss : List (List Int)} {f : Int} {ls : List Int} (h : PrOk us ur pss) (hr : RepIn f ls ur) : PrOk (us.keep (repK f ls)) ur pss where
  uok := h.uok.keep _
  rok := h.rok
  eb := h.eb
  nx := h.nx
  cu := fun y hy => h.cu y (List.mem_filter.mp hy).1
  cr := h.cr
  cf := fun c h0 h1 h2 => by
    by_cases h3 : c ∈ us.pk.map Prod.fst
    · have h4 : ¬ repK f ls c = true := fun z => h2 (by
        show c ∈ (us.pk.filter fun x => repK f ls x.1).map Prod.fst
        rw [keep_keys]
        exact List.mem_filter.mpr ⟨h3, z⟩)
      by_cases h5 : c < f
      · exact .inl (by have := hr.1; omega)
      · by_cases h6 : c ∈ ls
        · exact hr.2 c h6
        · exfalso
          refine h4 ?_
          unfold repK
          rw [decide_eq_false h5, decide_eq_false h6]
          rfl
    · exact h.cf c h0 h1 h3
  rb := h.rb
  rk := h.rk
  win := by
    have h1 := h.win
    have h2 := h.uok.keep_base (repK f ls)
    show us.nx - (us.keep (repK f ls)).base ≤ 2 ^ (us.bits - 1).toNat
    omega
theorem fromP_take (pss : List (List Int)) (n : Nat) (h : n ≤ pss.length) : fromP (pssP pss) 0 n = pss.take n := by
  unfold fromP pssP
  apply List.ext_getElem?
  intro i
  rw [List.getElem?_map, List.getElem?_take]
  by_cases hi : i < n
  · rw [List.getElem?_range hi, if_pos hi, List.getElem?_eq_getElem (show i < pss.length by omega)]
    show some (pss.getD (0 + (i : Int)).toNat []) = _
    have e : (0 + (i : Int)).toNat = i := by omega
    rw [e, List.getD_eq_getElem?_getD, List.getElem?_eq_getElem (show i < pss.length by omega)]
    rfl
  · rw [List.getElem?_eq_none (by rw [List.length_range]; omega), if_neg hi]
    rfl
theorem IOs.get {H : Hp} {ts qs : List Addr} {k : KX} (h : IOs H ts qs k) {i : Nat} (hi : i < k.length) : ∃ (t q : Addr) (c : Int) (x : List Int), ts[i]? = some t ∧ k[i]? = some (c, x) ∧ H t = some (.tup [.int c, .ref q]) ∧ H q = some (.lst (x.map V.int)) := by
  induction h generalizing i with
  | nil => exact absurd hi (Nat.not_lt_zero _)
  | @cons t q ts qs c x r h h2 _ ih =>
    cases i with
    | zero => exact ⟨t, q, c, x, rfl, rfl, h, h2⟩
    | succ i => exact ih (Nat.lt_of_succ_lt_succ hi)
abbrev prcells (Cs Cr ps dxs ds pr dxr dr : Addr) (us : UsS) (ur : UrS) : List (Addr × HO) := ucells Cs ps dxs ds us ++ rvcells Cr pr dxr dr ur
section
variable {P : Program} {w : World} {K : PySem.W.Frag} {mg : Str → Option Value} {base : Heap}
end
def pieceF (bits k b w c : Int) (x : List Int) : List Int := (c % 2 ^ bits.toNat) :: covF k b w c x
def ByOk (x : List Int) : Prop := (∀ y ∈ x, 0 ≤ y ∧ y < 256) ∧ x.length ≤ 100
theorem pssP_by {pss : List (List Int)} (h : ∀ x ∈ pss, ByOk x) (c : Int) : ByOk (pssP pss c) := by
  unfold pssP
  rw [List.getD_eq_getElem?_getD]
  cases e : pss[c.toNat]? with
  | none => exact ⟨fun y hy => (nomatch hy), Nat.zero_le _⟩
  | some x => exact h x (List.mem_of_getElem? e)
theorem fromP_len (P : Int → List Int) (f : Int) (n : Nat) : (fromP P f n).length = n := by
  unfold fromP
  rw [List.length_map, List.length_range]
theorem at_neg1 {α : Type} {l : List α} {x : α} : atI (l ++ [x]) (-1) = some x := by
  have h : ((l ++ [x]).length : Int) = (l.length : Int) + 1 := by rw [List.length_append]; rfl
  unfold atI ixN
  rw [if_neg (by decide), if_pos (by omega)]
  show (l ++ [x])[(-1 + ((l ++ [x]).length : Int)).toNat]? = some x
  have e : (-1 + ((l ++ [x]).length : Int)).toNat = l.length := by omega
  rw [e, List.getElem?_append_right (Nat.le_refl _), Nat.sub_self]
  rfl
theorem PrOk.rlen {us : UsS} {ur : UrS} {pss : List (List Int)} (h : PrOk us ur pss) : ur.pk.length ≤ pss.length := by
  have hk : ∀ c ∈ ur.pk.map Prod.fst, 0 ≤ c ∧ c < (pss.length : Int) := fun c hc => by
    have h1 := h.rok.gt c hc
    have h2 := h.rok.f0
    have h3 := h.rk c hc
    have h4 := h.nx
    omega
  have h2 := nodup_lt pss.length ((ur.pk.map Prod.fst).map Int.toNat) (List.pairwise_map.mpr (h.rok.nd.imp_of_mem fun ha hb hab => by
    have := hk _ ha
    have := hk _ hb
    have h5 : ¬ _ = _ := hab
    omega)) fun a ha => by
      obtain ⟨c, hc, rfl⟩ := List.mem_map.mp ha
      have := hk c hc
      omega
  rw [List.length_map, List.length_map] at h2
  exact h2
def Came (ur : UrS) (c : Int) : Prop := c < ur.first ∨ c ∈ ur.pk.map Prod.fst
theorem UrTook.keeps {ur ur' : UrS} {n c : Int} (t : UrTook ur n ur') (h : Came ur c) : Came ur' c := by
  unfold Came at *
  have hle := t.le
  by_cases h1 : c < ur'.first
  · exact .inl h1
  · rcases h with h | h
    · omega
    · exact .inr ((t.ks c).mpr ⟨by omega, .inl h⟩)
theorem UrTook.comes {ur ur' : UrS} {n : Int} (t : UrTook ur n ur') : Came ur' n := by
  unfold Came
  have hle := t.le
  by_cases h1 : n < ur'.first
  · exact .inl h1
  · exact .inr ((t.ks n).mpr ⟨by omega, .inr ⟨rfl, by omega⟩⟩)
theorem PrOk.whole {us : UsS} {ur : UrS} {pss : List (List Int)} (h : PrOk us ur pss) (hc : ∀ c ∈ us.pk.map Prod.fst, Came ur c) : ur.first = us.nx ∧ ur.pk = [] := by
  have h1 := h.rb
  have hf0 := h.rok.f0
  have e : ur.first = us.nx := by
    by_cases hlt : ur.first < us.nx
    · have h2 : Came ur ur.first := by
        by_cases hm : ur.first ∈ us.pk.map Prod.fst
        · exact hc _ hm
        · exact h.cf _ hf0 hlt hm
      rcases h2 with h2 | h2
      · omega
      · have := h.rok.gt _ h2
        omega
    · omega
  refine ⟨e, ?_⟩
  cases hp : ur.pk with
  | nil => rfl
  | cons x r =>
    have hm : x.1 ∈ ur.pk.map Prod.fst := by rw [hp]; exact .head _
    have h2 := h.rok.gt _ hm
    have h3 := h.rk _ hm
    omega
theorem PrOk.conf {us : UsS} {ur : UrS} {pss : List (List Int)} {n : Int} (h : PrOk us ur pss) (hn : Came ur n) : PrOk (us.keep fun x => !decide (x = n)) ur pss where
  uok := h.uok.keep _
  rok := h.rok
  eb := h.eb
  nx := h.nx
  cu := fun y hy => h.cu y (List.mem_filter.mp hy).1
  cr := h.cr
  cf := fun c h0 h1 h2 => by
    by_cases h3 : c ∈ us.pk.map Prod.fst
    · by_cases h4 : c = n
      · rw [h4]
        exact hn
      · exact absurd (by
          show c ∈ (us.pk.filter fun x => !decide (x.1 = n)).map Prod.fst
          rw [keep_keys us.pk (fun x => !decide (x = n))]
          exact List.mem_filter.mpr ⟨h3, by rw [decide_eq_false h4]; rfl⟩) h2
    · exact h.cf c h0 h1 h3
  rb := h.rb
  rk := h.rk
  win := by
    have h1 := h.win
    have h2 := h.uok.keep_base (fun x => !decide (x = n))
    show us.nx - (us.keep fun x => !decide (x = n)).base ≤ 2 ^ (us.bits - 1).toNat
    omega
section
variable {P : Program} {w : World} {K : PySem.W.Frag} {mg : Str → Option Value} {base : Heap}
end
structure F30 (bits : Int) (us : UsS) (ur : UrS) (pss : List (List Int)) (pq os : List Addr) (B : Hp) : Prop where
  ok : PrOk us ur pss
  hk : PkAt B us.pk
  hkr : PkAt B ur.pk
  eb : ur.bits = bits
  pL : LLs B pq pss
  oL : LLs B os (fromP (pssP pss) 0 ur.first.toNat)
  by' : ∀ x ∈ pss, ByOk x
theorem F30.mono {bits : Int} {us : UsS} {ur : UrS} {pss : List (List Int)} {pq os : List Addr} {B B' : Hp} (h : F30 bits us ur pss pq os B) (g : Same B B') : F30 bits us ur pss pq os B' :=
  ⟨h.ok, h.hk.mono g, h.hkr.mono g, h.eb, h.pL.mono g, h.oL.mono g, h.by'⟩
theorem F30.came {bits : Int} {us : UsS} {ur ur' : UrS} {pss : List (List Int)} {pq os gs : List Addr} {B B' : Hp} {c : Int} (h : F30 bits us ur pss pq os B) (g : Same B B') (hc : c ∈ us.pk.map Prod.fst) (t : UrTook ur c ur')
    (g2 : LLs B' gs (fromP (pssP pss) ur.first (ur'.first - ur.first).toNat)) (g4 : PkAt B' ur'.pk) (g5 : CntP (pssP pss) ur'.pk) : F30 bits us ur' pss pq (os ++ gs) B' := by
  refine ⟨h.ok.took hc t g5, h.hk.mono g, g4, t.eb.trans h.eb, h.pL.mono g, ?_, h.by'⟩
  have h1 := (h.oL.mono g).app g2
  have hf0 := h.ok.rok.f0
  have hle := t.le
  have e1 : ur.first = ((ur.first.toNat : Nat) : Int) := by omega
  have e2 : fromP (pssP pss) 0 ur.first.toNat ++ fromP (pssP pss) ur.first (ur'.first - ur.first).toNat = fromP (pssP pss) 0 ur'.first.toNat := by
    conv => lhs; rhs; rw [e1]
    rw [fromP_app]
    congr 1
    omega
  rw [e2] at h1
  exact h1
theorem F30.put {bits : Int} {us : UsS} {ur : UrS} {pss : List (List Int)} {pq os : List Addr} {B B' : Hp} {x : List Int} {l q : Addr} (h : F30 bits us ur pss pq os B) (g : Same B B') (hroom : us.nx - us.base < 2 ^ (us.bits - 1).toNat) (hl : B' l = some (.lst (x.map V.int))) (hq : B' q = some (.lst (x.map V.int))) (hx : ByOk x) :
    F30 bits (us.put q x) ur (pss ++ [x]) (pq ++ [l]) os B' := by
  have hnx := h.ok.nx
  refine ⟨h.ok.add hroom q x, (h.hk.mono g).snoc hq, h.hkr.mono g, h.eb, (h.pL.mono g).snoc hl, ?_, fun y hy => ?_⟩
  · have hf0 := h.ok.rok.f0
    have hrb := h.ok.rb
    have e : fromP (pssP (pss ++ [x])) 0 ur.first.toNat = fromP (pssP pss) 0 ur.first.toNat := by
      unfold fromP
      refine List.map_congr_left fun j hj => ?_
      have := List.mem_range.mp hj
      exact pssP_old (by omega) (by omega)
    rw [e]
    exact h.oL.mono g
  · rcases List.mem_append.mp hy with hy | hy
    · exact h.by' y hy
    · rw [List.mem_singleton.mp hy]
      exact hx
theorem F30.rep {bits : Int} {us : UsS} {ur : UrS} {pss : List (List Int)} {pq os : List Addr} {B B' : Hp} {ys : List Int} (h : F30 bits us ur pss pq os B) (g : Same B B') (hy : ys.Perm (ur.pk.map Prod.fst)) : F30 bits (us.keep (repK ur.first ys)) ur pss pq os B' := by
  have hrin : RepIn ur.first ys ur := ⟨Int.le_refl _, fun c hc => .inr (hy.mem_iff.mp hc)⟩
  exact ⟨h.ok.rep hrin, (h.hk.mono g).filter _, h.hkr.mono g, h.eb, h.pL.mono g, h.oL.mono g, h.by'⟩
theorem F30.conf {bits : Int} {us : UsS} {ur : UrS} {pss : List (List Int)} {pq os : List Addr} {B B' : Hp} {n : Int} (h : F30 bits us ur pss pq os B) (g : Same B B') (hn : Came ur n) : F30 bits (us.keep fun x => !decide (x = n)) ur pss pq os B' :=
  ⟨h.ok.conf hn, (h.hk.mono g).filter _, h.hkr.mono g, h.eb, h.pL.mono g, h.oL.mono g, h.by'⟩
section
variable {P : Program} {w : World} {K : PySem.W.Frag} {mg : Str → Option Value} {base : Heap}
def sp_u_law_come (K : PySem.W.Frag) (Cr : Addr) : Sp := fun vs H Q _ => ∃ (pr dxr dr : Addr) (ur : UrS) (B : Hp) (bits key : Int) (a : Addr) (c : Int) (P : Int → List Int), vs = [.ref pr, .int bits, .int key, .ref a] ∧ ur.bits = bits ∧ Cells H B (rvcells Cr pr dxr dr ur) ∧ UrOk ur ∧ PkAt B ur.pk ∧ CntP P ur.pk ∧ SqL K H a ((pieceF ur.bits key 2 0 c (P c)).map V.int) ∧ ByOk (P c) ∧ 0 ≤ c ∧ rdV ur.first (c % 2 ^ ur.bits.toNat) ur.bits = c ∧ ur.pk.length ≤ 1000 ∧
  ∀ (B' H' : Hp) (T D : Addr) (gs : List Addr) (ur' : UrS), Own H B [pr, dr] B' (rvcells Cr pr dxr dr ur') H' → B' T = some (.tup [.int c, .ref D]) → B' D = some (.lst (gs.map V.ref)) → LLs B' gs (fromP P ur.first (ur'.first - ur.first).toNat) → UrTook ur c ur' → PkAt B' ur'.pk → CntP P ur'.pk → Q (.ref T) H'
@[irreducible] def ip_u_law_come (K : PySem.W.Frag) (Cr : Addr) : Sp := sp_u_law_come K Cr
theorem op_u_law_come {K : PySem.W.Frag} {Cr : Addr} {vs : List V} {H : Hp} {Q : VK} {E : XK} (h : sp_u_law_come K Cr vs H Q E) : ip_u_law_come K Cr vs H Q E := by
  unfold ip_u_law_come
  exact h
theorem un_u_law_come {K : PySem.W.Frag} {Cr : Addr} {vs : List V} {H : Hp} {Q : VK} {E : XK} (h : ip_u_law_come K Cr vs H Q E) : sp_u_law_come K Cr vs H Q E := by
  unfold ip_u_law_come at h
  exact h
theorem ok_u_law_come (T : Tx P w K mg base) : FnOk P w K mg base CX0 5 T.a_u_law_come T.d_u_law_come ["receiver", "bits", "key", "piece"] (ip_u_law_come K T.C_UpperReceiver) := by
  have G_count_near := ok_count_near T
  have G_uncover := ok_uncover T
  have G_UpperReceiver_first_missing := ok_UpperReceiver_first_missing T
  have G_UpperReceiver_take := ok_UpperReceiver_take T
  refine T.p_u_law_come.F.ok sc_u_law_come (fun vs H Q E h => ?_) (fun cdv A outer s H vs Q E hr h => ?_)
  · obtain ⟨pr, dxr, dr, ur, B, bits, key, a, c0, P', rfl, hbe, c, ok, hkr, hP, hA, hby, hc0, hrd, hrl, q⟩ := un_u_law_come h
    rfl
  · obtain ⟨pr, dxr, dr, ur, B, bits, key, a, c0, P', rfl, hbe, c, ok, hkr, hP, hA, hby, hc0, hrd, hrl, q⟩ := un_u_law_come h
    refine ⟨_, (pss_cons (ps_set (i := 4) sc_u_law_come.nd rfl (Or.inl rfl) (pe_call G_count_near (hr.mono (by decide)) rfl T.p_count_near.m T.p_count_near.F.kp T.p_count_near.b .nil pass0 (pa_cons (meth_weak (pe_meth0 (pe_c (pv 0)) T.k_UpperReceiver.cl T.p_UpperReceiver_first_missing.me G_UpperReceiver_first_missing (hr.mono (by decide)) T.p_UpperReceiver_first_missing.b .nil pass0)) (pa_cons (pe_ix ix_listM (pv 3) pe_int (fun _ _ => rfl)) (pa_cons (pv 1) pa_nil))))) (pss_cons (ps_ifM (PW.pt (pw_orM (pt_cmpR op_isN (pv 4) pe_non (nomark _)) (pw_or1 (pt_cmpR op_notN (pe_call G_uncover (hr.mono (by decide)) rfl T.p_uncover.m T.p_uncover.F.kp T.p_uncover.b .nil pass0 (pa_cons (pe_op op_subM (pv 2) pe_int) (pa_cons pe_int (pa_cons pe_int (pa_cons (pv 4) (pa_cons (pe_slice sl_listM (pv 3) (po_some pe_int) po_none) pa_nil)))))) pe_non (nomark _))))) (pss_one (ps_ret (pe_tupM (pa_cons pe_non (pa_cons (pe_lstM pa_nil) pa_nil))))) pss_nil) (pss_cons (ps_set (i := 5) sc_u_law_come.nd rfl (Or.inl rfl) (pe_call G_uncover (hr.mono (by decide)) rfl T.p_uncover.m T.p_uncover.F.kp T.p_uncover.b .nil pass0 (pa_cons (pv 2) (pa_cons pe_int (pa_cons pe_int (pa_cons (pv 4) (pa_cons (pe_slice sl_listM (pv 3) (po_some pe_int) po_none) pa_nil))))))) (pss_cons (ps_ifM (pt_cmpR op_isN (pv 5) pe_non (nomark _)) (pss_one (ps_ret (pe_tupM (pa_cons pe_non (pa_cons (pe_lstM pa_nil) pa_nil))))) pss_nil) (pss_one (ps_ret (pe_tupM (pa_cons (pv 4) (pa_cons (meth_weak (pe_meth (pe_c (pv 0)) T.k_UpperReceiver.cl T.p_UpperReceiver_take.me G_UpperReceiver_take (hr.mono (by decide)) T.p_UpperReceiver_take.b .nil pass0 (pa_cons (pe_ix ix_listM (pv 3) pe_int (fun _ _ => rfl)) (pa_cons (pv 5) pa_nil)))) pa_nil))))))))), ?_⟩
    subst hbe
    have w0 : Own H B [pr, dr] B (rvcells T.C_UpperReceiver pr dxr dr ur) H := c.start
    have hpr := w0.mem (p := pr) (.head _)
    have hb := ok.b
    have hw : WayOk 0 := by unfold WayOk; decide
    have hpl : (pieceF ur.bits key 2 0 c0 (P' c0)).length = (P' c0).length + 4 := by
      unfold pieceF
      rw [List.length_cons, covF_len]
    have hl100 := hby.2
    have hd0 : (pieceF ur.bits key 2 0 c0 (P' c0)).getD (0 : Int).toNat 0 = c0 % 2 ^ ur.bits.toNat := rfl
    have hdr : (pieceF ur.bits key 2 0 c0 (P' c0)).drop (1 : Int).toNat = covF key 2 0 c0 (P' c0) := rfl
    (repeat walk_at "rd")
    refine op_UpperReceiver_first_missing ⟨pr, dxr, dr, ur, rfl, hpr, ?_⟩
    (repeat walk_at "rd")
    refine rd_ixI hA (by decide) (by omega) ?_
    rw [hd0]
    (repeat walk_at "rd")
    refine op_count_near ⟨ur.first, _, ur.bits, rfl, by omega, by omega, ?_⟩
    have e : nearV ur.first (c0 % 2 ^ ur.bits.toNat) (2 ^ ur.bits.toNat) (2 ^ (ur.bits - 1).toNat) = .int c0 := by
      have h2 : ¬ rdV ur.first (c0 % 2 ^ ur.bits.toNat) ur.bits < 0 := by omega
      unfold rdV at h2 hrd
      unfold nearV
      rw [if_neg h2, hrd]
    rw [e]
    (repeat walk_at "rd")
    refine rd_sl hA ?_
    intro p1 H1 n1 s1 e1
    rw [cutX_from (by decide), ← List.map_drop, hdr] at e1
    have ho : uncF (key - 1) 2 0 c0 (covF key 2 0 c0 (P' c0)) = none := unc_other hw hw (fun z => by have := z.1; omega)
    (repeat walk_at "rd")
    refine op_uncover ⟨key - 1, 2, 0, c0, p1, _, rfl, sq_of e1, by rw [covF_len]; omega, fun _ H2 s2 => ?_, fun ns hns => absurd hns (by rw [ho]; exact fun z => nomatch z)⟩
    have s02 := s1.trans s2
    (repeat walk_at "rd")
    refine rd_sl (s02.seq hA) ?_
    intro p3 H3 n3 s3 e3
    rw [cutX_from (by decide), ← List.map_drop, hdr] at e3
    (repeat walk_at "rd")
    refine op_uncover ⟨key, 2, 0, c0, p3, _, rfl, sq_of e3, by rw [covF_len]; omega, fun hn => absurd hn (by rw [unc_cov hby.1]; exact fun z => nomatch z), fun ns hns p4 H4 n4 s4 e4 => ?_⟩
    have ens : ns = P' c0 := Option.some.inj (hns.symm.trans (unc_cov hby.1))
    subst ens
    have s04 := (s02.trans s3).trans s4
    have w4 := w0.more s04
    have hpr4 := w4.mem (p := pr) (.head _)
    (repeat walk_at "rd")
    refine rd_ixI (s04.seq hA) (by decide) (by omega) ?_
    rw [hd0]
    (repeat walk_at "rd")
    refine op_UpperReceiver_take ⟨pr, dxr, dr, ur, B, _, p4, P', rfl, w4.c, ok, hkr, hP, by omega, fun hx => absurd hx (by rw [hrd]; omega), fun _ => ?_⟩
    rw [hrd]
    refine ⟨sq_of e4, fun B' H' D gs ur' wsub g1 g2 g3 g4 g5 => ?_⟩
    have w5 := w4.call0 wsub
    (repeat walk_at "rd")
    intro t6 H6 n6 s6 e6
    obtain ⟨B6, sB6, hB6, _, w6⟩ := w5.ro n6 s6 e6
    exact q B6 H6 t6 D gs ur' w6 hB6 (sB6 _ _ g1) (g2.mono sB6) g3 (g4.mono sB6) g5
end
theorem IOs.but {H H' : Hp} {ts qs : List Addr} {k : KX} {D : Addr} (h : IOs H ts qs k) (b : ∀ a o, a ≠ D → H a = some o → H' a = some o) (ht : D ∉ ts) (hq : D ∉ qs) : IOs H' ts qs k := by
  induction h with
  | nil => exact .nil
  | cons h1 h2 _ ih => exact .cons (b _ _ (fun z => ht (by rw [z]; exact .head _)) h1) (b _ _ (fun z => hq (by rw [z]; exact .head _)) h2) (ih (fun z => ht (.tail _ z)) fun z => hq (.tail _ z))
section
variable {P : Program} {w : World} {K : PySem.W.Frag} {mg : Str → Option Value} {base : Heap}
def sp_u_law_pieces (K : PySem.W.Frag) (Cs : Addr) : Sp := fun vs H Q _ => ∃ (ps dxs ds : Addr) (us : UsS) (bits key f : Int), vs = [.ref ps, .int bits, .int key, .int f] ∧ us.bits = bits ∧ H ps = some (.ins Cs dxs (us.fs ds)) ∧ H ds = some (.dK (pkK us.pk)) ∧ UsOk us ∧ PkAt H us.pk ∧ us.pk.length ≤ 1000 ∧ (∀ x ∈ us.pk, ByOk x.2.2) ∧
  ∀ (D : Addr) (al : List Addr) (H' : Hp), H D = none → Cpy H D al (((pkX us.pk).filter fun x => decide (f ≤ x.1)).map fun x => pieceF us.bits key 2 0 x.1 x.2) H' → Q (.ref D) H'
@[irreducible] def ip_u_law_pieces (K : PySem.W.Frag) (Cs : Addr) : Sp := sp_u_law_pieces K Cs
theorem op_u_law_pieces {K : PySem.W.Frag} {Cs : Addr} {vs : List V} {H : Hp} {Q : VK} {E : XK} (h : sp_u_law_pieces K Cs vs H Q E) : ip_u_law_pieces K Cs vs H Q E := by
  unfold ip_u_law_pieces
  exact h
theorem un_u_law_pieces {K : PySem.W.Frag} {Cs : Addr} {vs : List V} {H : Hp} {Q : VK} {E : XK} (h : ip_u_law_pieces K Cs vs H Q E) : sp_u_law_pieces K Cs vs H Q E := by
  unfold ip_u_law_pieces at h
  exact h
theorem ok_u_law_pieces (T : Tx P w K mg base) : FnOk P w K mg base CX0 3 T.a_u_law_pieces T.d_u_law_pieces ["sender", "bits", "key", "first"] (ip_u_law_pieces K T.C_UpperSender) := by
  have G_UpperSender_unconfirmed := ok_UpperSender_unconfirmed T
  have G_cover := ok_cover T
  have G_short_of := ok_short_of T
  refine T.p_u_law_pieces.F.ok sc_u_law_pieces (fun vs H Q E h => ?_) (fun cdv A outer s H vs Q E hr h => ?_)
  · obtain ⟨ps, dxs, ds, us, bits, key, f0, rfl, hbe, hps, hds, ok, hk, hl, hby, q⟩ := un_u_law_pieces h
    rfl
  · obtain ⟨ps, dxs, ds, us, bits, key, f0, rfl, hbe, hps, hds, ok, hk, hl, hby, q⟩ := un_u_law_pieces h
    refine ⟨_, (pss_cons (ps_set (i := 4) sc_u_law_pieces.nd rfl (Or.inl rfl) (pe_lstM pa_nil)) (pss_cons (ps_forG PassesOwn.never rfl (meth_weak (pe_meth0 (pe_c (pv 0)) T.k_UpperSender.cl T.p_UpperSender_unconfirmed.me G_UpperSender_unconfirmed (hr.mono (by decide)) T.p_UpperSender_unconfirmed.b .nil pass0)) (pg_tup rfl (pgs_cons (pg_name (i := 5) sc_u_law_pieces.nd rfl (Or.inl rfl)) (pgs_cons (pg_name (i := 6) sc_u_law_pieces.nd rfl (Or.inl rfl)) pgs_nil))) (pss_one (ps_ifM (pt_cmpR op_geM (pv 5) (pv 3) (nomark _)) (pss_one (ps_expr (pe_app (pv 4) (pe_op op_catM (pe_lstM (pa_cons (pe_call G_short_of (hr.mono (by decide)) rfl T.p_short_of.m T.p_short_of.F.kp T.p_short_of.b .nil pass0 (pa_cons (pv 5) (pa_cons (pv 1) pa_nil))) pa_nil)) (pe_call G_cover (hr.mono (by decide)) rfl T.p_cover.m T.p_cover.F.kp T.p_cover.b .nil pass0 (pa_cons (pv 2) (pa_cons pe_int (pa_cons pe_int (pa_cons (pv 5) (pa_cons (pv 6) pa_nil)))))))))) pss_nil))) (pss_one (ps_ret (pv 4))))), ?_⟩
    subst hbe
    have hkl : (pkX us.pk).length = us.pk.length := List.length_map ..
    have hb := ok.b
    (repeat walk_at "rd")
    intro D H1 n1 s1 e1
    (repeat walk_at "rd")
    refine rd_forG ?_
    (repeat walk_at "rd")
    refine op_UpperSender_unconfirmed ⟨ps, dxs, ds, us, rfl, s1 _ _ hps, s1 _ _ hds, ok, hk.mono s1, hl, fun D2 ts qs H2 hD2 io => ?_⟩
    have htl := io.ls.len
    have hDt : D ∉ ts := fun z => by
      have := io.frt D z
      rw [e1] at this
      cases this
    have hDq : D ∉ qs := fun z => by
      have := (io.frq D z).1
      rw [e1] at this
      cases this
    have hDD : D2 ≠ D := fun z => by
      rw [z, e1] at hD2
      cases hD2
    refine ⟨D2, ts.map V.ref, fun i σ H' => Stop (∃ (al : List Addr) (x5 x6 : Option V), (∀ b o, b ≠ D → H2 b = some o → H' b = some o) ∧ Cpy H D al ((((pkX us.pk).take i).filter fun x => decide (f0 ≤ x.1)).map fun x => pieceF us.bits key 2 0 x.1 x.2) H' ∧ σ = [some (.ref ps), some (.int us.bits), some (.int key), some (.int f0), some (.ref D), x5, x6]), rfl, sq_of io.at', .a ⟨[], _, _, fun _ _ _ h => h, ⟨s1.trans io.sm, io.sm _ _ e1, .nil, fun q hq => (nomatch hq), .nil⟩, rfl⟩, fun i σ' H' _ w => ?_, fun i y σ' H' hi w => ?_, fun σ' H' w => ?_⟩
    · obtain ⟨_, _, _, hb2, _, _⟩ := w.un
      exact sq_of (hb2 _ _ hDD io.at')
    · obtain ⟨al, x5, x6, hb2, cp, rfl⟩ := w.un
      rw [List.getElem?_map] at hi
      obtain ⟨t, htt, rfl⟩ := Option.map_eq_some_iff.mp hi
      have hil := (List.getElem?_eq_some_iff.mp htt).1
      obtain ⟨t', q0, cn, x0, h1, h2, h3, h4⟩ := (io.ls.but hb2 hDt hDq).get (i := i) (by omega)
      obtain rfl := Option.some.inj (h1.symm.trans htt)
      obtain ⟨xx, hxx, exx⟩ : ∃ xx, us.pk[i]? = some xx ∧ (xx.1, xx.2.2) = (cn, x0) := by
        have h2' := h2
        unfold pkX at h2'
        rw [List.getElem?_map] at h2'
        exact Option.map_eq_some_iff.mp h2'
      obtain ⟨ex1, ex2⟩ := Prod.mk.inj exx
      have hxm := List.mem_of_getElem? hxx
      have hx0 := hby xx hxm
      have hn0 := (ok.lt xx.1 (List.mem_map.mpr ⟨xx, hxm, rfl⟩)).1
      subst ex1
      subst ex2
      have hDH := cp.at'
      refine ⟨t', _, rfl, st_of h3, rfl, _, _, rfl, _, _, rfl, rfl, ?_⟩
      (repeat walk_at "rd")
      refine br_by (fun h => ?_) (fun h => ?_)
      · (repeat walk_at "rd")
        refine op_short_of ⟨xx.1, us.bits, rfl, by omega, by omega, ?_⟩
        (repeat walk_at "rd")
        intro t5 H5 n5 s5 e5
        (repeat walk_at "rd")
        refine op_cover ⟨key, 2, 0, xx.1, q0, xx.2.2, rfl, sq_of (s5 _ _ h4), by have := hx0.2; omega, fun p6 H6 n6 s6 e6 => ?_⟩
        (repeat walk_at "rd")
        have e5' : H6 t5 = some (.lst (([xx.1 % 2 ^ us.bits.toNat] : List Int).map V.int)) := s6 _ _ e5
        refine rd_cat e5' e6 (by rw [List.length_map, List.length_map, covF_len]; have := hx0.2; show 1 + _ ≤ _; omega) ?_
        intro p7 H7 n7 s7 e7
        rw [← List.map_append] at e7
        have s57 := (s5.trans s6).trans s7
        have hall := cp.ls.len
        have hfl : ((((pkX us.pk).take i).filter fun x => decide (f0 ≤ x.1)).map fun x => pieceF us.bits key 2 0 x.1 x.2).length ≤ 1000 := by
          rw [List.length_map]
          have h5 := List.length_filter_le (fun x : Int × List Int => decide (f0 ≤ x.1)) ((pkX us.pk).take i)
          rw [List.length_take] at h5
          omega
        refine rd_app (s57 _ _ hDH) (by rw [List.length_map, hall]; omega) ?_
        refine .a ⟨al ++ [p7], _, _, fun b o hbD hh => ?_, ?_, rfl⟩
        · rw [upd_ne hbD]
          exact s57 _ _ (hb2 b o hbD hh)
        · rw [take_snoc h2, List.filter_append, List.filter_cons, if_pos (decide_eq_true h), List.filter_nil, List.map_append]
          exact cp.next n1 (same_none (s5.trans s6) n7) s57 e7
      · refine .a ⟨al, _, _, hb2, ?_, rfl⟩
        rw [take_snoc h2, List.filter_append, List.filter_cons, if_neg (by rw [decide_eq_false h]; decide), List.filter_nil, List.append_nil]
        exact cp
    · obtain ⟨al, x5, x6, hb2, cp, rfl⟩ := w.un
      (repeat walk_at "rd")
      rw [List.length_map, htl.1, List.take_length] at cp
      exact q D al H' n1 cp
end
abbrev c30 (Cs Cr ps dxs ds pr dxr dr pu ou : Addr) (us : UsS) (ur : UrS) (pq os : List Addr) : List (Addr × HO) := prcells Cs Cr ps dxs ds pr dxr dr us ur ++ [(pu, .lst (pq.map V.ref)), (ou, .lst (os.map V.ref))]
structure A30 (bits key : Int) (us : UsS) (pss : List (List Int)) (aA : Addr) (al : List Addr) (B : Hp) : Prop where
  at' : B aA = some (.lst (al.map V.ref))
  ls : LLs B al ((us.pk.map Prod.fst).map fun c => pieceF bits key 2 0 c (pssP pss c))
theorem pieces_all {bits key : Int} {pss : List (List Int)} {pk : Pk} (h : CntP (pssP pss) pk) : (pkX pk).map (fun x => pieceF bits key 2 0 x.1 x.2) = (pk.map Prod.fst).map fun c => pieceF bits key 2 0 c (pssP pss c) := by
  unfold pkX
  rw [List.map_map, List.map_map]
  refine List.map_congr_left fun x hx => ?_
  show pieceF bits key 2 0 x.1 x.2.2 = pieceF bits key 2 0 x.1 (pssP pss x.1)
  rw [h x hx]
theorem pieces_new {pk : Pk} {n : Int} {c : Addr} {x : List Int} (h : ∀ y ∈ pk.map Prod.fst, y < n) : (pkX (pk ++ [(n, c, x)])).filter (fun y => decide (n ≤ y.1)) = [(n, x)] := by
  unfold pkX
  rw [List.map_append, List.filter_append, List.filter_eq_nil_iff.mpr]
  · rw [List.nil_append]
    show List.filter _ [(n, x)] = _
    rw [List.filter_cons, if_pos (decide_eq_true (Int.le_refl _))]
    rfl
  · intro y hy
    obtain ⟨z, hz, rfl⟩ := List.mem_map.mp hy
    have := h z.1 (List.mem_map.mpr ⟨z, hz, rfl⟩)
    rw [decide_eq_false (show ¬ n ≤ z.1 by omega)]
    exact Bool.false_ne_true
section
variable {P : Program} {w : World} {K : PySem.W.Frag} {mg : Str → Option Value} {base : Heap}
def sp_u_law_stay (K : PySem.W.Frag) (Cs Cr : Addr) : Sp := fun vs H Q _ => ∃ (st : Addr) (key : Int) (dg : Addr) (ls : Bool) (d0 d1 d2 d3 d4 d5 bits : Int) (ps dxs ds pr dxr dr pu ou : Addr) (us : UsS) (ur : UrS) (pss : List (List Int)) (pq os : List Addr) (B : Hp), vs = [.ref st, .int key, .ref dg, .bl ls] ∧ B st = some (.tup [.ref ps, .ref pr, .int bits, .ref pu, .ref ou]) ∧ B dg = some (.lst ([d0, d1, d2, d3, d4, d5].map V.int)) ∧
  ((0 ≤ d1 ∧ d1 ≤ 12) ∧ (0 ≤ d2 ∧ d2 < 256) ∧ (0 ≤ d3 ∧ d3 ≤ 100) ∧ (0 ≤ d4 ∧ d4 < 10) ∧ (0 ≤ d5 ∧ d5 < 10)) ∧ (0 ≤ key ∧ key ≤ 1000) ∧ Cells H B (c30 Cs Cr ps dxs ds pr dxr dr pu ou us ur pq os) ∧ F30 bits us ur pss pq os B ∧ pss.length ≤ 200 ∧
  ∀ (us' : UsS) (ur' : UrS) (pss' : List (List Int)) (pq' os' : List Addr) (B' H' : Hp), Own H B [ps, ds, pr, dr, pu, ou] B' (c30 Cs Cr ps dxs ds pr dxr dr pu ou us' ur' pq' os') H' → F30 bits us' ur' pss' pq' os' B' → pss'.length ≤ pss.length + 12 → (ls = true → us'.pk = []) → Q (.bl true) H'
@[irreducible] def ip_u_law_stay (K : PySem.W.Frag) (Cs Cr : Addr) : Sp := sp_u_law_stay K Cs Cr
theorem op_u_law_stay {K : PySem.W.Frag} {Cs Cr : Addr} {vs : List V} {H : Hp} {Q : VK} {E : XK} (h : sp_u_law_stay K Cs Cr vs H Q E) : ip_u_law_stay K Cs Cr vs H Q E := by
  unfold ip_u_law_stay
  exact h
theorem un_u_law_stay {K : PySem.W.Frag} {Cs Cr : Addr} {vs : List V} {H : Hp} {Q : VK} {E : XK} (h : ip_u_law_stay K Cs Cr vs H Q E) : sp_u_law_stay K Cs Cr vs H Q E := by
  unfold ip_u_law_stay at h
  exact h
theorem ok_u_law_stay (T : Tx P w K mg base) : FnOk P w K mg base CX0 6 T.a_u_law_stay T.d_u_law_stay ["state", "key", "digits", "lossless"] (ip_u_law_stay K T.C_UpperSender T.C_UpperReceiver) := by
  have G_u_law_pieces := ok_u_law_pieces T
  have G_UpperReceiver_report := ok_UpperReceiver_report T
  have G_UpperSender_take_report := ok_UpperSender_take_report T
  have G_UpperSender_may_add := ok_UpperSender_may_add T
  have G_u_law_come := ok_u_law_come T
  have G_UpperSender_confirm := ok_UpperSender_confirm T
  have G_UpperSender_add := ok_UpperSender_add T
  refine T.p_u_law_stay.F.ok sc_u_law_stay (fun vs H Q E h => ?_) (fun cdv A outer s H vs Q E hr h => ?_)
  · obtain ⟨st, key, dg, ls, d0, d1, d2, d3, d4, d5, bits, ps, dxs, ds, pr, dxr, dr, pu, ou, us, ur, pss, pq, os, B, rfl, hst, hdg, hd, hkey, c, ff, hn, q⟩ := un_u_law_stay h
    rfl
  · obtain ⟨st, key, dg, ls, d0, d1, d2, d3, d4, d5, bits, ps, dxs, ds, pr, dxr, dr, pu, ou, us, ur, pss, pq, os, B, rfl, hst, hdg, hd, hkey, c, ff, hn, q⟩ := un_u_law_stay h
    refine ⟨_, (pss_cons (ps_asg (pv 0) (pg_tup rfl (pgs_cons (pg_name (i := 4) sc_u_law_stay.nd rfl (Or.inl rfl)) (pgs_cons (pg_name (i := 5) sc_u_law_stay.nd rfl (Or.inl rfl)) (pgs_cons (pg_name (i := 6) sc_u_law_stay.nd rfl (Or.inl rfl)) (pgs_cons (pg_name (i := 7) sc_u_law_stay.nd rfl (Or.inl rfl)) (pgs_cons (pg_name (i := 8) sc_u_law_stay.nd rfl (Or.inl rfl)) pgs_nil))))))) (pss_cons (ps_ifJ (pt_cmpR op_eq (pe_ix ix_listM (pv 2) pe_int (fun _ _ => rfl)) pe_int (nomark _)) (pss_cons (ps_asg (meth_weak (pe_meth0 (pe_c (pv 5)) T.k_UpperReceiver.cl T.p_UpperReceiver_report.me G_UpperReceiver_report (hr.mono (by decide)) T.p_UpperReceiver_report.b .nil pass0)) (pg_tup rfl (pgs_cons (pg_name (i := 9) sc_u_law_stay.nd rfl (Or.inl rfl)) (pgs_cons (pg_name (i := 10) sc_u_law_stay.nd rfl (Or.inl rfl)) pgs_nil)))) (pss_one (ps_expr (meth_weak (pe_meth (pe_c (pv 4)) T.k_UpperSender.cl T.p_UpperSender_take_report.me G_UpperSender_take_report (hr.mono (by decide)) T.p_UpperSender_take_report.b .nil pass0 (pa_cons (pv 9) (pa_cons (pv 10) pa_nil))))))) pss_nil) (pss_cons (ps_set (i := 11) sc_u_law_stay.nd rfl (Or.inl rfl) (pe_call G_u_law_pieces (hr.mono (by decide)) rfl T.p_u_law_pieces.m T.p_u_law_pieces.F.kp T.p_u_law_pieces.b .nil pass0 (pa_cons (pv 4) (pa_cons (pv 6) (pa_cons (pv 1) (pa_cons pe_int pa_nil)))))) (pss_cons (ps_forR1 PassesOwn.never rfl rfl T.n_range (pa_cons (pe_ix ix_listM (pv 2) pe_int (fun _ _ => rfl)) pa_nil) (pg_name (i := 12) sc_u_law_stay.nd rfl (Or.inl rfl)) (pss_one (ps_ifJ (pt_val (meth_weak (pe_meth0 (pe_c (pv 4)) T.k_UpperSender.cl T.p_UpperSender_may_add.me G_UpperSender_may_add (hr.mono (by decide)) T.p_UpperSender_may_add.b .nil pass0))) (pss_cons (ps_expr (pe_app (pv 7) (pe_lstM (pa_cons (pv 12) (pa_cons (pe_ix ix_listM (pv 2) pe_int (fun _ _ => rfl)) (pa_cons (pe_op op_modM (pv 1) pe_int) pa_nil)))))) (pss_one (ps_set (i := 11) sc_u_law_stay.nd rfl (Or.inl rfl) (pe_op op_catM (pv 11) (pe_call G_u_law_pieces (hr.mono (by decide)) rfl T.p_u_law_pieces.m T.p_u_law_pieces.F.kp T.p_u_law_pieces.b .nil pass0 (pa_cons (pv 4) (pa_cons (pv 6) (pa_cons (pv 1) (pa_cons (meth_weak (pe_meth (pe_c (pv 4)) T.k_UpperSender.cl T.p_UpperSender_add.me G_UpperSender_add (hr.mono (by decide)) T.p_UpperSender_add.b .nil passL (pa_cons (pe_ix ix_listM (pv 7) (pe_un un_neg pe_int) (fun _ _ => rfl)) pa_nil))) pa_nil))))))))) pss_nil))) (pss_cons (ps_set (i := 13) sc_u_law_stay.nd rfl (Or.inl rfl) (pe_callB call_lenM (by rfl) T.n_len PySem.boot_len (pa_cons (pv 11) pa_nil))) (pss_cons (ps_ifJ (pt_not (pt_val (pv 3))) (pss_one (ps_set (i := 13) sc_u_law_stay.nd rfl (Or.inl rfl) (pe_callB (call_min2 rfl) (by rfl) T.n_min (by decide +kernel) (pa_cons (pe_callB call_lenM (by rfl) T.n_len PySem.boot_len (pa_cons (pv 11) pa_nil)) (pa_cons (pe_ix ix_listM (pv 2) pe_int (fun _ _ => rfl)) pa_nil))))) pss_nil) (pss_cons (ps_forR1 PassesOwn.never rfl rfl T.n_range (pa_cons (pv 13) pa_nil) (pg_name (i := 12) sc_u_law_stay.nd rfl (Or.inl rfl)) (pss_one (ps_ifCJ (PW.pt (pw_orM (pt_val (pv 3)) (pw_or1 (pt_cmpR op_gtM (pe_op op_modM (pe_op op_addM (pe_op op_mulM (pv 12) (pe_ix ix_listM (pv 2) pe_int (fun _ _ => rfl))) (pe_ix ix_listM (pv 2) pe_int (fun _ _ => rfl))) pe_int) pe_int (nomark _))))) (pss_cons (ps_asg (pe_call G_u_law_come (hr.mono (by decide)) rfl T.p_u_law_come.m T.p_u_law_come.F.kp T.p_u_law_come.b .nil pass0 (pa_cons (pv 5) (pa_cons (pv 6) (pa_cons (pv 1) (pa_cons (pe_ix ix_listM (pv 11) (pv 12) (fun _ _ => rfl)) pa_nil))))) (pg_tup rfl (pgs_cons (pg_name (i := 14) sc_u_law_stay.nd rfl (Or.inl rfl)) (pgs_cons (pg_name (i := 15) sc_u_law_stay.nd rfl (Or.inl rfl)) pgs_nil)))) (pss_cons (ps_ifM (pt_cmpR op_isN (pv 14) pe_non (nomark _)) (pss_one (ps_ret pe_bl)) pss_nil) (pss_cons (ps_expr (pe_ext (pv 8) (pv 15))) (pss_one (ps_ifCJ (PW.pt (pw_orM (pt_val (pv 3)) (pw_or1 (pt_cmpR op_gtM (pe_op op_modM (pe_op op_addM (pv 12) (pe_ix ix_listM (pv 2) pe_int (fun _ _ => rfl))) pe_int) pe_int (nomark _))))) (pss_one (ps_expr (meth_weak (pe_meth (pe_c (pv 4)) T.k_UpperSender.cl T.p_UpperSender_confirm.me G_UpperSender_confirm (hr.mono (by decide)) T.p_UpperSender_confirm.b .nil pass0 (pa_cons (pv 14) pa_nil))))) pss_nil))))) pss_nil))) (pss_one (ps_ret (pe_cmpR (op_eqDM hr.units) (pv 8) (pe_slice sl_listM (pv 7) po_none (po_some (pe_callB call_lenM (by rfl) T.n_len PySem.boot_len (pa_cons (pv 8) pa_nil)))) (nomark _))))))))))), ?_⟩
    have w0 : Own H B [ps, ds, pr, dr, pu, ou] B (c30 T.C_UpperSender T.C_UpperReceiver ps dxs ds pr dxr dr pu ou us ur pq os) H := c.start
    have hbq := ff.ok.rok.b
    (repeat walk_at "rd")
    refine ⟨st, _, rfl, st_of (w0.imm _ _ hst), rfl, _, _, rfl, _, _, rfl, _, _, rfl, _, _, rfl, _, _, rfl, rfl, ?_⟩
    refine frS (σ' := [some (.ref st), some (.int key), some (.ref dg), some (.bl ls), some (.ref ps), some (.ref pr), some (.int bits), some (.ref pu), some (.ref ou), none, none, none, none, none, none, none]) rfl ?_
    (repeat walk_at "rd")
    refine rd_ixI (sq_of (w0.imm _ _ hdg)) (by decide) (by show (0 : Int) < 6; decide) ?_
    (repeat walk_at "rd")
    refine rd_ifJ (fun σ' H' => Stop (∃ (us1 : UsS) (B1 : Hp) (x9 x10 : Option V), Own H B [ps, ds, pr, dr, pu, ou] B1 (c30 T.C_UpperSender T.C_UpperReceiver ps dxs ds pr dxr dr pu ou us1 ur pq os) H' ∧ F30 bits us1 ur pss pq os B1 ∧ Same B B1 ∧ σ' = [some (.ref st), some (.int key), some (.ref dg), some (.bl ls), some (.ref ps), some (.ref pr), some (.int bits), some (.ref pu), some (.ref ou), x9, x10, none, none, none, none, none])) (fun h => ?_) (fun h => ?_) (fun σ' H1 wq => ?_)
    · have hpr1 := w0.mem (p := pr) (.tail _ (.tail _ (.head _)))
      have hdr1 := w0.mem (p := dr) (.tail _ (.tail _ (.tail _ (.head _))))
      have hrl := ff.ok.rlen
      have hpl := kx_len ff.ok.uok
      have hnx := ff.ok.nx
      (repeat walk_at "rd")
      refine op_UpperReceiver_report ⟨pr, dxr, dr, ur, rfl, hpr1, hdr1, by omega, fun ys hpm ho l10 t10 H10 H11 n10 s10 e10 n11 s11 e11 => ?_⟩
      obtain ⟨B10, sB10, hB10, _, w10⟩ := w0.ro n10 s10 e10
      have w11 := w10.more s11
      (repeat walk_at "rd")
      refine ⟨t10, _, rfl, st_of e11, rfl, _, _, rfl, _, _, rfl, rfl, ?_⟩
      refine frS (σ' := [some (.ref st), some (.int key), some (.ref dg), some (.bl ls), some (.ref ps), some (.ref pr), some (.int bits), some (.ref pu), some (.ref ou), some (.int ur.first), some (.ref l10), none, none, none, none, none]) rfl ?_
      have hps11 := w11.mem (p := ps) (.head _)
      have w11' : Own H B [ps, ds, pr, dr, pu, ou] B10 (ucells T.C_UpperSender ps dxs ds us ++ (rvcells T.C_UpperReceiver pr dxr dr ur ++ [(pu, .lst (pq.map V.ref)), (ou, .lst (os.map V.ref))])) H11 := w11
      (repeat walk_at "rd")
      refine op_UpperSender_take_report ⟨ps, dxs, ds, us, B10, ur.first, l10, ys, rfl, w11'.cellsL, ff.ok.uok, sq_of hB10, by omega, fun B12 H12 wsub => ?_⟩
      exact .a ⟨us.keep (repK ur.first ys), B12, _, _, w11'.call wsub, ff.rep (sB10.trans wsub.grow) hpm, sB10.trans wsub.grow, rfl⟩
    · exact .a ⟨us, B, _, _, w0, ff, Same.refl _, rfl⟩
    obtain ⟨us1, B1, x9, x10, w1, f1, g1, rfl⟩ := wq.un
    clear wq w0
    have hps1 := w1.mem (p := ps) (.head _)
    have hds1 := w1.mem (p := ds) (.tail _ (.head _))
    have hpl := kx_len f1.ok.uok
    have hnx := f1.ok.nx
    (repeat walk_at "rd")
    refine op_u_law_pieces ⟨ps, dxs, ds, us1, bits, key, 0, rfl, f1.ok.eb.trans f1.eb, hps1, hds1, f1.ok.uok, f1.hk.mono w1.imm, by omega, fun x hx => ?_, fun aA al H2 nA cp => ?_⟩
    · rw [f1.ok.cu x hx]
      exact pssP_by f1.by' _
    obtain ⟨B2, sB2, hLL2, hB2, w2⟩ := w1.cpyR nA cp
    have a2 : A30 bits key us1 pss aA al B2 := by
      refine ⟨hB2, ?_⟩
      have e1 : (pkX us1.pk).filter (fun x => decide (0 ≤ x.1)) = pkX us1.pk := List.filter_eq_self.mpr fun y hy => by
        obtain ⟨z, hz, rfl⟩ := List.mem_map.mp hy
        exact decide_eq_true (f1.ok.uok.lt z.1 (List.mem_map.mpr ⟨z, hz, rfl⟩)).1
      rw [e1, f1.ok.eb, f1.eb, pieces_all f1.ok.cu] at hLL2
      exact hLL2
    have f2 := f1.mono sB2
    clear cp hLL2 hB2
    refine frG (σ' := [some (.ref st), some (.int key), some (.ref dg), some (.bl ls), some (.ref ps), some (.ref pr), some (.int bits), some (.ref pu), some (.ref ou), x9, x10, some (.ref aA), none, none, none, none]) rfl ?_
    refine rd_forR1 ?_
    (repeat walk_at "rd")
    refine rd_ixI (sq_of (w2.imm _ _ (sB2 _ _ (g1 _ _ hdg)))) (by decide) (by show (1 : Int) < 6; decide) ?_
    (repeat walk_at "rd")
    refine ⟨d1, fun i σ H' => Stop (∃ (us' : UsS) (pss' : List (List Int)) (pq' : List Addr) (B' : Hp) (aA : Addr) (al : List Addr) (x12 : Option V), Own H B [ps, ds, pr, dr, pu, ou] B' (c30 T.C_UpperSender T.C_UpperReceiver ps dxs ds pr dxr dr pu ou us' ur pq' os) H' ∧ F30 bits us' ur pss' pq' os B' ∧ A30 bits key us' pss' aA al B' ∧ Same B B' ∧ pss'.length ≤ pss.length + i ∧
      σ = [some (.ref st), some (.int key), some (.ref dg), some (.bl ls), some (.ref ps), some (.ref pr), some (.int bits), some (.ref pu), some (.ref ou), x9, x10, some (.ref aA), x12, none, none, none]), rfl, ⟨by omega, by omega⟩, .a ⟨us1, pss, pq, B2, aA, al, _, w2, f2, a2, g1.trans sB2, Nat.le_refl _, rfl⟩, fun i σ' H' hi wq => ?_, fun σ' H3 wq => ?_⟩
    · obtain ⟨us3, pss3, pq3, B3, aA3, al3, x12, w3, f3, a3, g3, hl3, rfl⟩ := wq.un
      clear wq w2 w1 f1 f2 a2
      have hps3 := w3.mem (p := ps) (.head _)
      have hds3 := w3.mem (p := ds) (.tail _ (.head _))
      have hpu3 := w3.mem (p := pu) (.tail _ (.tail _ (.tail _ (.tail _ (.head _)))))
      have hpl3 := kx_len f3.ok.uok
      have hnx3 := f3.ok.nx
      have hpq3 := f3.pL.len
      (repeat walk_at "rd")
      refine op_UpperSender_may_add ⟨ps, dxs, ds, us3, rfl, hps3, hds3, f3.ok.uok, ?_⟩
      (repeat walk_at "rd")
      refine rd_ifJ (fun σ' H' => Stop (∃ (us' : UsS) (pss' : List (List Int)) (pq' : List Addr) (B' : Hp) (aA : Addr) (al : List Addr) (x12 : Option V), Own H B [ps, ds, pr, dr, pu, ou] B' (c30 T.C_UpperSender T.C_UpperReceiver ps dxs ds pr dxr dr pu ou us' ur pq' os) H' ∧ F30 bits us' ur pss' pq' os B' ∧ A30 bits key us' pss' aA al B' ∧ Same B B' ∧ pss'.length ≤ pss.length + (i + 1) ∧
        σ' = [some (.ref st), some (.int key), some (.ref dg), some (.bl ls), some (.ref ps), some (.ref pr), some (.int bits), some (.ref pu), some (.ref ou), x9, x10, some (.ref aA), x12, none, none, none])) (fun h => ?_) (fun h => ?_) (fun σ' H7 w => w)
      · have hroom := of_decide_eq_true h
        (repeat walk_at "rd")
        refine rd_ixI (sq_of (w3.imm _ _ (g3 _ _ hdg))) (by decide) (by show (2 : Int) < 6; decide) ?_
        (repeat walk_at "rd")
        intro l4 H4 n4 s4 e4
        have e4' : H4 l4 = some (.lst (([(i : Int), d2, key % 256] : List Int).map V.int)) := e4
        have hx0 : ByOk [(i : Int), d2, key % 256] := ⟨fun y hy => by
          rcases List.mem_cons.mp hy with rfl | hy
          · omega
          · rcases List.mem_cons.mp hy with rfl | hy
            · omega
            · rw [List.mem_singleton.mp hy]
              omega, by show 3 ≤ 100; decide⟩
        generalize ([(i : Int), d2, key % 256] : List Int) = x0 at hx0 e4'
        obtain ⟨B4, sB4, hB4, _, w4⟩ := w3.ro n4 s4 e4'
        refine rd_app (s4 _ _ hpu3) (by rw [List.length_map, hpq3]; omega) ?_
        have w5 : Own H B [ps, ds, pr, dr, pu, ou] B4 (ucells T.C_UpperSender ps dxs ds us3 ++ (rvcells T.C_UpperReceiver pr dxr dr ur ++ [(pu, .lst ((pq3 ++ [l4]).map V.ref)), (ou, .lst (os.map V.ref))])) _ := w4.set 4 rfl (.lst ((pq3 ++ [l4]).map V.ref))
        rw [snocR]
        have hps5 := w5.mem (p := ps) (.head _)
        have hpu5 := w5.mem (p := pu) (.tail _ (.tail _ (.tail _ (.tail _ (.head _)))))
        have hat : atI ((pq3 ++ [l4]).map V.ref) (-1) = some (.ref l4) := by
          rw [List.map_append]
          exact at_neg1
        (repeat walk_at "rd")
        refine rd_ixL (sq_of hpu5) hat ?_
        (repeat walk_at "rd")
        refine op_UpperSender_add ⟨ps, dxs, ds, us3, B4, l4, x0, rfl, w5.cellsL, f3.ok.uok, sq_of (w5.imm _ _ hB4), by omega, fun _ B6 H6 cq wsub hc => ?_, fun hx => absurd hroom hx⟩
        have w6 : Own H B [ps, ds, pr, dr, pu, ou] B6 (c30 T.C_UpperSender T.C_UpperReceiver ps dxs ds pr dxr dr pu ou (us3.put cq x0) ur (pq3 ++ [l4]) os) H6 := w5.call wsub
        have g6 : Same B3 B6 := sB4.trans wsub.grow
        have f6 := f3.put g6 hroom (wsub.grow _ _ hB4) hc hx0
        have hpl6 := kx_len f6.ok.uok
        have hnx6 := f6.ok.nx
        rw [List.length_append, List.length_singleton] at hnx6
        have hps6 := w6.mem (p := ps) (.head _)
        have hds6 := w6.mem (p := ds) (.tail _ (.head _))
        (repeat walk_at "rd")
        refine op_u_law_pieces ⟨ps, dxs, ds, us3.put cq x0, bits, key, us3.nx, rfl, f6.ok.eb.trans f6.eb, hps6, hds6, f6.ok.uok, f6.hk.mono w6.imm, by omega, fun x hx => ?_, fun aN aln H7 nN cp => ?_⟩
        · rw [f6.ok.cu x hx]
          exact pssP_by f6.by' _
        obtain ⟨B7, sB7, hLL7, hB7, w7⟩ := w6.cpyR nN cp
        have hnew : (pkX (us3.put cq x0).pk).filter (fun x => decide (us3.nx ≤ x.1)) = [(us3.nx, x0)] := pieces_new fun y hy => (f3.ok.uok.lt y hy).2
        rw [hnew] at hLL7
        have hal3 := a3.ls.len
        rw [List.length_map, List.length_map] at hal3
        have haln := hLL7.len
        refine rd_cat (w7.imm _ _ (sB7 _ _ (g6 _ _ a3.at'))) (w7.imm _ _ hB7) (by rw [List.length_map, List.length_map, haln, hal3]; show _ + 1 ≤ _; omega) ?_
        intro aA8 H8 n8 s8 e8
        rw [← List.map_append] at e8
        obtain ⟨B8, sB8, hB8, _, w8⟩ := w7.ro n8 s8 e8
        have g8 : Same B3 B8 := g6.trans (sB7.trans sB8)
        refine .a ⟨us3.put cq x0, pss3 ++ [x0], pq3 ++ [l4], B8, aA8, al3 ++ aln, _, w8, f6.mono (sB7.trans sB8), ⟨hB8, ?_⟩, g3.trans g8, ?_, rfl⟩
        · have e1 : ((us3.put cq x0).pk.map Prod.fst).map (fun c => pieceF bits key 2 0 c (pssP (pss3 ++ [x0]) c)) = (us3.pk.map Prod.fst).map (fun c => pieceF bits key 2 0 c (pssP pss3 c)) ++ [pieceF bits key 2 0 us3.nx x0] := by
            show ((us3.pk ++ [(us3.nx, cq, x0)]).map Prod.fst).map _ = _
            rw [List.map_append, List.map_append]
            congr 1
            · refine List.map_congr_left fun c hc => ?_
              have := f3.ok.uok.lt c hc
              rw [pssP_old this.1 (by omega)]
            · show [pieceF bits key 2 0 us3.nx (pssP (pss3 ++ [x0]) us3.nx)] = _
              rw [hnx3, pssP_new]
          rw [e1]
          refine (a3.ls.mono g8).app ?_
          have e2 : (us3.put cq x0).bits = bits := f6.ok.eb.trans f6.eb
          rw [e2] at hLL7
          exact hLL7.mono sB8
        · rw [List.length_append]
          show _ + 1 ≤ _
          omega
      · exact .a ⟨us3, pss3, pq3, B3, aA3, al3, _, w3, f3, a3, g3, by omega, rfl⟩
    obtain ⟨us3, pss3, pq3, B3, aA3, al3, x12, w3, f3, a3, g3, hl3, rfl⟩ := wq.un
    clear wq w2 w1 f1 f2 a2
    have hl3' : pss3.length ≤ pss.length + 12 := by omega
    have hair := w3.imm _ _ a3.at'
    have hdg3 := w3.imm _ _ (g3 _ _ hdg)
    have hal3 := a3.ls.len
    rw [List.length_map, List.length_map] at hal3
    have hpl3 := kx_len f3.ok.uok
    have hnx3 := f3.ok.nx
    (repeat walk_at "rd")
    rw [List.length_map]
    refine rd_ifJ (fun σ' H' => Stop (H' = H3 ∧ ∃ v : Nat, v ≤ al3.length ∧ (ls = true → v = al3.length) ∧ σ' = [some (.ref st), some (.int key), some (.ref dg), some (.bl ls), some (.ref ps), some (.ref pr), some (.int bits), some (.ref pu), some (.ref ou), x9, x10, some (.ref aA3), x12, some (.int (v : Nat)), none, none])) (fun h => ?_) (fun h => ?_) (fun σ' H4 wq => ?_)
    · have hls : ls = false := by
        cases ls with
        | false => rfl
        | true => cases h
      (repeat walk_at "rd")
      rw [List.length_map]
      refine rd_ixI (sq_of hdg3) (by decide) (by show (3 : Int) < 6; decide) ?_
      (repeat walk_at "rd")
      refine ⟨_, _, rfl, ?_⟩
      (repeat walk_at "rd")
      refine .a ⟨rfl, (if d3 < (al3.length : Int) then d3 else (al3.length : Int)).toNat, by split <;> omega, fun z => absurd z (by rw [hls]; decide), ?_⟩
      have e : (((if d3 < (al3.length : Int) then d3 else (al3.length : Int)).toNat : Nat) : Int) = if d3 < (al3.length : Int) then d3 else (al3.length : Int) := by split <;> omega
      rw [e]
      rfl
    · exact .a ⟨rfl, al3.length, Nat.le_refl _, fun _ => rfl, rfl⟩
    obtain ⟨rfl, v, hv1, hv2, rfl⟩ := wq.un
    clear wq
    have hlo := f3.ok.base_first
    have hwin := f3.ok.win
    have hac : ∀ c ∈ us3.pk.map Prod.fst, us3.base ≤ c ∧ c < us3.nx ∧ 0 ≤ c := fun c hc => ⟨f3.ok.uok.base_le c hc, (f3.ok.uok.lt c hc).2, (f3.ok.uok.lt c hc).1⟩
    have hub : us3.bits = bits := f3.ok.eb.trans f3.eb
    rw [hub] at hwin
    generalize us3.base = lo at hlo hwin hac
    have hnd := f3.ok.uok.nd
    generalize hacs : us3.pk.map Prod.fst = ac at hac hnd a3
    have hacl : ac.length = al3.length := by rw [← hacs, List.length_map]; omega
    refine rd_forR1 ?_
    (repeat walk_at "rd")
    refine ⟨(v : Nat), fun i σ H' => Stop (∃ (us' : UsS) (ur' : UrS) (os' : List Addr) (B' : Hp) (x12 x14 x15 : Option V), Own H B [ps, ds, pr, dr, pu, ou] B' (c30 T.C_UpperSender T.C_UpperReceiver ps dxs ds pr dxr dr pu ou us' ur' pq3 os') H' ∧ F30 bits us' ur' pss3 pq3 os' B' ∧ Same B3 B' ∧ (∀ (j : Nat) (c : Int), i ≤ j → ac[j]? = some c → c ∈ us'.pk.map Prod.fst) ∧ (ls = true → ∀ c ∈ us'.pk.map Prod.fst, ∃ j : Nat, i ≤ j ∧ ac[j]? = some c) ∧ ur.first ≤ ur'.first ∧ us'.nx = us3.nx ∧
      σ = [some (.ref st), some (.int key), some (.ref dg), some (.bl ls), some (.ref ps), some (.ref pr), some (.int bits), some (.ref pu), some (.ref ou), x9, x10, some (.ref aA3), x12, some (.int (v : Nat)), x14, x15]), rfl, ⟨by omega, by omega⟩, .a ⟨us3, ur, os, B3, _, _, _, w3, f3, Same.refl _, fun j c _ hj => by rw [hacs]; exact List.mem_of_getElem? hj, fun _ c hc => ?_, Int.le_refl _, rfl, rfl⟩, fun i σ' H' hi wq => ?_, fun σ' H5 wq => ?_⟩
    · rw [hacs] at hc
      obtain ⟨j, hj⟩ := List.getElem?_of_mem hc
      exact ⟨j, Nat.zero_le _, hj⟩
    · obtain ⟨us5, ur5, os5, B5, y12, y14, y15, w5, f5, g5, hin, hls, hf5, hnx5, rfl⟩ := wq.un
      clear wq w3
      have hiv : i < v := by omega
      have hdg5 := w5.imm _ _ (g5 _ _ (g3 _ _ hdg))
      have hair5 := w5.imm _ _ (g5 _ _ a3.at')
      refine rd_ifCJ (fun b H6 => H6 = H' ∧ (ls = true → b = true)) (fun σ' H' => Stop (∃ (us' : UsS) (ur' : UrS) (os' : List Addr) (B' : Hp) (x12 x14 x15 : Option V), Own H B [ps, ds, pr, dr, pu, ou] B' (c30 T.C_UpperSender T.C_UpperReceiver ps dxs ds pr dxr dr pu ou us' ur' pq3 os') H' ∧ F30 bits us' ur' pss3 pq3 os' B' ∧ Same B3 B' ∧ (∀ (j : Nat) (c : Int), i + 1 ≤ j → ac[j]? = some c → c ∈ us'.pk.map Prod.fst) ∧ (ls = true → ∀ c ∈ us'.pk.map Prod.fst, ∃ j : Nat, i + 1 ≤ j ∧ ac[j]? = some c) ∧ ur.first ≤ ur'.first ∧ us'.nx = us3.nx ∧
        σ' = [some (.ref st), some (.int key), some (.ref dg), some (.bl ls), some (.ref ps), some (.ref pr), some (.int bits), some (.ref pu), some (.ref ou), x9, x10, some (.ref aA3), x12, some (.int (v : Nat)), x14, x15])) ?_ (fun H6 hR => ?_) (fun H6 hR => ?_) (fun σ' H6 w => w)
      · (repeat walk_at "rd")
        refine br_b (fun h => ?_) (fun h => ?_)
        · exact ⟨rfl, fun _ => rfl⟩
        (repeat walk_at "rd")
        refine rd_ixI (sq_of hdg5) (by decide) (by show (4 : Int) < 6; decide) ?_
        (repeat walk_at "rd")
        refine rd_ixI (sq_of hdg5) (by decide) (by show (5 : Int) < 6; decide) ?_
        (repeat walk_at "rd")
        exact fun z => absurd z (by rw [h]; decide)
      · obtain ⟨rfl, _⟩ := hR
        have hci : ac[i]? = some (ac.getD i 0) := by
          rw [List.getD_eq_getElem?_getD, List.getElem?_eq_getElem (by omega)]
          rfl
        generalize ac.getD i 0 = c1 at hci
        obtain ⟨hc1a, hc1b, hc1c⟩ := hac c1 (List.mem_of_getElem? hci)
        have hcin := hin i c1 (Nat.le_refl _) hci
        have hpi : al3[i]? = some (al3.getD i 0) := by
          rw [List.getD_eq_getElem?_getD, List.getElem?_eq_getElem (by omega)]
          rfl
        generalize al3.getD i 0 = p1 at hpi
        have hpc : B3 p1 = some (.lst ((pieceF bits key 2 0 c1 (pssP pss3 c1)).map V.int)) := by
          obtain ⟨x, hx, hp⟩ := a3.ls.at hpi
          rw [hacs, List.getElem?_map, hci] at hx
          cases hx
          exact hp
        have hrl5 := f5.ok.rlen
        have hrb5 := f5.ok.rb
        (repeat walk_at "rd")
        refine rd_ixL (sq_of hair5) (at_of (j := i) (by omega) (by rw [List.getElem?_map, hpi]; rfl)) ?_
        (repeat walk_at "rd")
        have w6 : Own H B [ps, ds, pr, dr, pu, ou] B5 (rvcells T.C_UpperReceiver pr dxr dr ur5 ++ (ucells T.C_UpperSender ps dxs ds us5 ++ [(pu, .lst (pq3.map V.ref)), (ou, .lst (os5.map V.ref))])) H6 := w5.reorder [2, 3, 0, 1, 4, 5]
        refine op_u_law_come ⟨pr, dxr, dr, ur5, B5, bits, key, p1, c1, pssP pss3, rfl, f5.eb, w6.cellsL, f5.ok.rok, f5.hkr, f5.ok.cr, by rw [f5.eb]; exact sq_of (w5.imm _ _ (g5 _ _ hpc)), pssP_by f5.by' _, hc1c, rdV_eq f5.ok.rok.b (by rw [f5.eb]; omega) (by rw [f5.eb]; omega), by omega, fun B8 H8 T8 D8 gs ur8 wsub gT g1 g2 g3' g4 g5' => ?_⟩
        have w8 : Own H B [ps, ds, pr, dr, pu, ou] B8 (c30 T.C_UpperSender T.C_UpperReceiver ps dxs ds pr dxr dr pu ou us5 ur8 pq3 os5) H8 := (w6.call wsub).reorder [2, 3, 0, 1, 4, 5]
        have f8 := f5.came wsub.grow hcin g3' g2 g4 g5'
        have hou8 := w8.mem (p := ou) (.tail _ (.tail _ (.tail _ (.tail _ (.tail _ (.head _))))))
        have hol := f8.oL.len
        have hrb := f8.ok.rb
        have hf0 := f8.ok.rok.f0
        have hnx8 := f8.ok.nx
        rw [fromP_len, List.length_append] at hol
        (repeat walk_at "rd")
        refine ⟨T8, _, rfl, st_of (w8.imm _ _ gT), rfl, _, _, rfl, _, _, rfl, rfl, ?_⟩
        refine frS (σ' := [some (.ref st), some (.int key), some (.ref dg), some (.bl ls), some (.ref ps), some (.ref pr), some (.int bits), some (.ref pu), some (.ref ou), x9, x10, some (.ref aA3), some (.int (i : Nat)), some (.int (v : Nat)), some (.int c1), some (.ref D8)]) rfl ?_
        (repeat walk_at "rd")
        refine rd_ext hou8 (w8.imm _ _ g1) (by rw [List.length_map, List.length_map]; omega) ?_
        have w9 := w8.set 5 rfl (.lst (os5.map V.ref ++ gs.map V.ref))
        rw [← List.map_append] at w9 ⊢
        have w9 : Own H B [ps, ds, pr, dr, pu, ou] B8 (c30 T.C_UpperSender T.C_UpperReceiver ps dxs ds pr dxr dr pu ou us5 ur8 pq3 (os5 ++ gs)) _ := w9
        generalize upd H8 ou (.lst ((os5 ++ gs).map V.ref)) = H9 at w9 ⊢
        have hdg9 := w9.imm _ _ (wsub.grow _ _ (g5 _ _ (g3 _ _ hdg)))
        have hcame : Came ur8 c1 := g3'.comes
        have hle8 := g3'.le
        refine rd_ifCJ (fun b H6 => H6 = H9 ∧ (ls = true → b = true)) (fun σ' H' => Stop (∃ (us' : UsS) (ur' : UrS) (os' : List Addr) (B' : Hp) (x12 x14 x15 : Option V), Own H B [ps, ds, pr, dr, pu, ou] B' (c30 T.C_UpperSender T.C_UpperReceiver ps dxs ds pr dxr dr pu ou us' ur' pq3 os') H' ∧ F30 bits us' ur' pss3 pq3 os' B' ∧ Same B3 B' ∧ (∀ (j : Nat) (c : Int), i + 1 ≤ j → ac[j]? = some c → c ∈ us'.pk.map Prod.fst) ∧ (ls = true → ∀ c ∈ us'.pk.map Prod.fst, ∃ j : Nat, i + 1 ≤ j ∧ ac[j]? = some c) ∧ ur.first ≤ ur'.first ∧ us'.nx = us3.nx ∧
          σ' = [some (.ref st), some (.int key), some (.ref dg), some (.bl ls), some (.ref ps), some (.ref pr), some (.int bits), some (.ref pu), some (.ref ou), x9, x10, some (.ref aA3), x12, some (.int (v : Nat)), x14, x15])) ?_ (fun H10 hR => ?_) (fun H10 hR => ?_) (fun σ' H6 w => w)
        · (repeat walk_at "rd")
          refine br_b (fun h => ?_) (fun h => ?_)
          · exact ⟨rfl, fun _ => rfl⟩
          (repeat walk_at "rd")
          refine rd_ixI (sq_of hdg9) (by decide) (by show (5 : Int) < 6; decide) ?_
          (repeat walk_at "rd")
          exact fun z => absurd z (by rw [h]; decide)
        · obtain ⟨rfl, _⟩ := hR
          have hps9 := w9.mem (p := ps) (.head _)
          (repeat walk_at "rd")
          have w9' : Own H B [ps, ds, pr, dr, pu, ou] B8 (ucells T.C_UpperSender ps dxs ds us5 ++ (rvcells T.C_UpperReceiver pr dxr dr ur8 ++ [(pu, .lst (pq3.map V.ref)), (ou, .lst ((os5 ++ gs).map V.ref))])) H10 := w9
          refine op_UpperSender_confirm ⟨ps, dxs, ds, us5, B8, c1, rfl, w9'.cellsL, fun H11 wsub2 => ?_⟩
          have hkk : (us5.keep fun x => !decide (x = c1)).pk.map Prod.fst = (us5.pk.map Prod.fst).filter fun x => !decide (x = c1) := keep_keys us5.pk (fun x => !decide (x = c1))
          refine .a ⟨us5.keep fun x => !decide (x = c1), ur8, os5 ++ gs, B8, _, _, _, w9'.call wsub2, f8.conf (Same.refl _) hcame, g5.trans wsub.grow, fun j c hj hc => ?_, fun z c hc => ?_, by omega, hnx5, rfl⟩
          · rw [hkk]
            refine List.mem_filter.mpr ⟨hin j c (by omega) hc, ?_⟩
            have hne : ¬ c = c1 := fun e => by
              subst e
              have := (List.getElem?_inj (List.getElem?_eq_some_iff.mp hci).1 hnd).mp (hci.trans hc.symm)
              omega
            rw [decide_eq_false hne]
            rfl
          · rw [hkk] at hc
            obtain ⟨h1, h2⟩ := List.mem_filter.mp hc
            obtain ⟨j, hj1, hj2⟩ := hls z c h1
            refine ⟨j, ?_, hj2⟩
            by_cases e : j = i
            · subst e
              obtain rfl := Option.some.inj (hci.symm.trans hj2)
              simp at h2
            · omega
        · obtain ⟨rfl, hR⟩ := hR
          have hls0 : ls = false := by
            cases ls with
            | false => rfl
            | true => cases hR rfl
          exact .a ⟨us5, ur8, os5 ++ gs, B8, _, _, _, w9, f8, g5.trans wsub.grow, fun j c hj hc => hin j c (by omega) hc, fun z => absurd z (by rw [hls0]; decide), by omega, hnx5, rfl⟩
      · obtain ⟨rfl, hR⟩ := hR
        have hls0 : ls = false := by
          cases ls with
          | false => rfl
          | true => cases hR rfl
        exact .a ⟨us5, ur5, os5, B5, _, _, _, w5, f5, g5, fun j c hj hc => hin j c (by omega) hc, fun z => absurd z (by rw [hls0]; decide), hf5, hnx5, rfl⟩
    obtain ⟨us5, ur5, os5, B5, y12, y14, y15, w5, f5, g5, hin, hls, hf5, hnx5, rfl⟩ := wq.un
    have hou := w5.mem (p := ou) (.tail _ (.tail _ (.tail _ (.tail _ (.tail _ (.head _))))))
    have hpu := w5.mem (p := pu) (.tail _ (.tail _ (.tail _ (.tail _ (.head _)))))
    have hol := f5.oL.len
    rw [fromP_len] at hol
    have hrb := f5.ok.rb
    have hf0 := f5.ok.rok.f0
    have hnx6 := f5.ok.nx
    (repeat walk_at "rd")
    refine rd_sl (sq_of hpu) ?_
    intro l6 H6 n6 s6 e6
    have w6 := w5.more s6
    rw [cutX_to (by omega), List.length_map, Int.toNat_natCast, ← List.map_take, hol] at e6
    refine rd_eqLL (sq_of (s6 _ _ hou)) (f5.oL.mono w6.imm) (sq_of e6) ((f5.pL.mono w6.imm).take _) ?_
    refine q_bl (q us5 ur5 pss3 pq3 os5 B5 _ w6 f5 hl3' fun z => ?_) ?_
    · cases hp : us5.pk with
      | nil => rfl
      | cons x r =>
        obtain ⟨j, hj1, hj2⟩ := hls z x.1 (by rw [hp]; exact .head _)
        have hj3 := (List.getElem?_eq_some_iff.mp hj2).1
        have := hv2 z
        omega
    · rw [fromP_take _ _ (by omega)]
      exact (decide_eq_true rfl).symm
def sp_law (K : PySem.W.Frag) : Sp := fun vs H Q _ => ∃ (a : Addr) (ns : List Int), vs = [.ref a] ∧ SqL K H a (ns.map V.int) ∧ ns.length ≤ 63 ∧ ∀ H', Q (.bl true) H'
@[irreducible] def ip_law (K : PySem.W.Frag) : Sp := sp_law K
theorem op_law {K : PySem.W.Frag} {vs : List V} {H : Hp} {Q : VK} {E : XK} (h : sp_law K vs H Q E) : ip_law K vs H Q E := by
  unfold ip_law
  exact h
theorem un_law {K : PySem.W.Frag} {vs : List V} {H : Hp} {Q : VK} {E : XK} (h : ip_law K vs H Q E) : sp_law K vs H Q E := by
  unfold ip_law at h
  exact h
theorem ok_law (T : Tx P w K mg base) : FnOk P w K mg base CX0 7 T.a_law T.d_law ["script"] (ip_law K) := by
  have G_u_law_many := ok_u_law_many T
  have G_UpperSender___init__ := ok_UpperSender___init__ T
  have G_UpperReceiver___init__ := ok_UpperReceiver___init__ T
  have G_u_law_digits := ok_u_law_digits T
  have G_u_law_stay := ok_u_law_stay T
  have G_UpperSender_unconfirmed := ok_UpperSender_unconfirmed T
  have G_UpperReceiver_held := ok_UpperReceiver_held T
  have G_u_law_cell := ok_u_law_cell T
  refine T.p_law.F.ok sc_law (fun vs H Q E h => ?_) (fun cdv A outer s H vs Q E hr h => ?_)
  · obtain ⟨a, ns, rfl, hS, hlen, q⟩ := un_law h
    rfl
  · obtain ⟨a, ns, rfl, hS, hlen, q⟩ := un_law h
    refine ⟨_, (pss_cons (ps_set (i := 1) sc_law.nd rfl (Or.inl rfl) (pe_op op_addM pe_int (pe_op op_modM (pe_callTy call_int1 (by rfl) T.n_int (by decide +kernel) (pa_cons (pe_call G_u_law_cell (hr.mono (by decide)) rfl T.p_u_law_cell.m T.p_u_law_cell.F.kp T.p_u_law_cell.b .nil pass0 (pa_cons (pv 0) (pa_cons pe_int pa_nil))) pa_nil)) pe_int))) (pss_cons (ps_set (i := 2) sc_law.nd rfl (Or.inl rfl) (pe_tupM (pa_cons (pe_make T.k_UpperSender.mk' G_UpperSender___init__ (hr.mono (by decide)) rfl T.g_UpperSender T.p_UpperSender___init__.b .nil pass0 (pa_cons (pv 1) pa_nil)) (pa_cons (pe_make T.k_UpperReceiver.mk' G_UpperReceiver___init__ (hr.mono (by decide)) rfl T.g_UpperReceiver T.p_UpperReceiver___init__.b .nil pass0 (pa_cons (pv 1) pa_nil)) (pa_cons (pv 1) (pa_cons (pe_lstM pa_nil) (pa_cons (pe_lstM pa_nil) pa_nil))))))) (pss_cons (ps_set (i := 3) sc_law.nd rfl (Or.inl rfl) (pe_call G_u_law_many (hr.mono (by decide)) rfl T.p_u_law_many.m T.p_u_law_many.F.kp T.p_u_law_many.b .nil pass0 (pa_cons (pv 0) (pa_cons pe_int (pa_cons pe_int pa_nil))))) (pss_cons (ps_forR2 PassesOwn.never rfl rfl T.n_range (pa_cons pe_int (pa_cons (pe_op op_addM pe_int (pv 3)) pa_nil)) (pg_name (i := 4) sc_law.nd rfl (Or.inl rfl)) (pss_cons (ps_set (i := 5) sc_law.nd rfl (Or.inl rfl) (pe_call G_u_law_digits (hr.mono (by decide)) rfl T.p_u_law_digits.m T.p_u_law_digits.F.kp T.p_u_law_digits.b .nil pass0 (pa_cons (pe_op op_addM (pe_call G_u_law_cell (hr.mono (by decide)) rfl T.p_u_law_cell.m T.p_u_law_cell.F.kp T.p_u_law_cell.b .nil pass0 (pa_cons (pv 0) (pa_cons (pe_op op_subM (pv 4) pe_int) pa_nil))) (pe_op op_mulM pe_int (pv 4))) (pa_cons (pe_lstM (pa_cons pe_int (pa_cons pe_int (pa_cons pe_int (pa_cons pe_int (pa_cons pe_int (pa_cons pe_int pa_nil))))))) pa_nil)))) (pss_one (ps_ifM (pt_not (pt_val (pe_call G_u_law_stay (hr.mono (by decide)) rfl T.p_u_law_stay.m T.p_u_law_stay.F.kp T.p_u_law_stay.b .nil pass0 (pa_cons (pv 2) (pa_cons (pv 4) (pa_cons (pv 5) (pa_cons pe_bl pa_nil))))))) (pss_one (ps_ret pe_bl)) pss_nil)))) (pss_cons (ps_ifM (pt_not (pt_val (pe_call G_u_law_stay (hr.mono (by decide)) rfl T.p_u_law_stay.m T.p_u_law_stay.F.kp T.p_u_law_stay.b .nil pass0 (pa_cons (pv 2) (pa_cons (pe_op op_addM (pv 3) pe_int) (pa_cons (pe_lstM (pa_cons pe_int (pa_cons pe_int (pa_cons pe_int (pa_cons pe_int (pa_cons pe_int (pa_cons pe_int pa_nil))))))) (pa_cons pe_bl pa_nil))))))) (pss_one (ps_ret pe_bl)) pss_nil) (pss_one (ps_ret (pe_andM (pe_cmpR (op_eqDM hr.units) (pe_ix ix_tupM (pv 2) pe_int (fun _ _ => rfl)) (pe_ix ix_tupM (pv 2) pe_int (fun _ _ => rfl)) (nomark _)) (pe_andM (pe_cmpR (op_eqDM hr.units) (meth_weak (pe_meth0 (pe_c (pe_ix ix_tupM (pv 2) pe_int (fun _ _ => rfl))) T.k_UpperSender.cl T.p_UpperSender_unconfirmed.me G_UpperSender_unconfirmed (hr.mono (by decide)) T.p_UpperSender_unconfirmed.b .nil pass0)) (pe_lstM pa_nil) (nomark _)) (pe_one (pe_cmpR (op_eqDM hr.units) (meth_weak (pe_meth0 (pe_c (pe_ix ix_tupM (pv 2) pe_int (fun _ _ => rfl))) T.k_UpperReceiver.cl T.p_UpperReceiver_held.me G_UpperReceiver_held (hr.mono (by decide)) T.p_UpperReceiver_held.b .nil pass0)) (pe_lstM pa_nil) (nomark _)))))))))))), ?_⟩
    (repeat walk_at "rd")
    refine op_u_law_cell ⟨a, ns, _, rfl, (by walk_at "sq"), (by decide), ?_⟩
    (repeat walk_at "rd")
    generalize hb0 : 4 + ns.getD (0 : Int).toNat 0 % 4 = bits
    have hbits : 4 ≤ bits ∧ bits ≤ 7 := by omega
    clear hb0
    intro ps dxs nxs ndxs nxds
    have w1 : Own H H [] H [(ps, .ins T.C_UpperSender dxs [])] _ := (Own.mk0 (H := H)).add nxs ((same_upd (o := .own ps) ndxs).trans (same_upd (by rw [upd_ne (Ne.symm nxds)]; exact nxs))) (upd_same (o := .ins T.C_UpperSender dxs []))
    refine op_UpperSender___init__ ⟨ps, dxs, bits, H, rfl, w1.cellsL (lc := [(ps, .ins T.C_UpperSender dxs [])]), fun ds H2 w2' => ?_⟩
    have w2 : Own H H [] H (ucells T.C_UpperSender ps dxs ds ⟨bits, 0, []⟩) H2 := w1.call0 w2'
    refine ⟨rfl, ?_⟩
    (repeat walk_at "rd")
    intro pr dxr nxr ndxr nxdr
    have w3 := w2.addR nxr ((same_upd (o := .own pr) ndxr).trans (same_upd (by rw [upd_ne (Ne.symm nxdr)]; exact nxr))) (upd_same (o := .ins T.C_UpperReceiver dxr []))
    have w3' := w3.perm (List.perm_append_comm (l₁ := [(pr, HO.ins T.C_UpperReceiver dxr [])]))
    refine op_UpperReceiver___init__ ⟨pr, dxr, bits, H, rfl, w3'.cellsL (lc := [(pr, .ins T.C_UpperReceiver dxr [])]), fun dr H4 w4' => ?_⟩
    have w4 := (w3'.call (lc := [(pr, .ins T.C_UpperReceiver dxr [])]) w4').perm (List.perm_append_comm (l₁ := ucells T.C_UpperSender ps dxs ds ⟨bits, 0, []⟩))
    have w4 : Own H H [] H (prcells T.C_UpperSender T.C_UpperReceiver ps dxs ds pr dxr dr ⟨bits, 0, []⟩ ⟨bits, 0, []⟩) H4 := w4
    clear w1 w2 w2' w3 w3' w4'
    refine ⟨rfl, ?_⟩
    (repeat walk_at "rd")
    intro pu H6 n6 s6 e6
    have w6 := w4.addR n6 s6 e6
    (repeat walk_at "rd")
    intro ou H7 n7 s7 e7
    have w7 := w6.addR n7 s7 e7
    (repeat walk_at "rd")
    intro st H8 n8 s8 e8
    obtain ⟨B8, sB8, hB8, _, w8⟩ := w7.ro n8 s8 e8
    have w8 : Own H H [] B8 (c30 T.C_UpperSender T.C_UpperReceiver ps dxs ds pr dxr dr pu ou ⟨bits, 0, []⟩ ⟨bits, 0, []⟩ [] []) H8 := w8
    have f8 : F30 bits ⟨bits, 0, []⟩ ⟨bits, 0, []⟩ [] [] [] B8 := ⟨{ uok := ⟨hbits, .nil, fun n hn => (nomatch hn), Int.le_refl _⟩, rok := ⟨hbits, .nil, fun n hn => (nomatch hn), Int.le_refl _⟩, eb := rfl, nx := rfl, cu := fun x hx => (nomatch hx), cr := fun x hx => (nomatch hx), cf := fun c h0 h1 _ => absurd h1 (by show ¬ c < 0; omega), rb := Int.le_refl _, rk := fun c hc => (nomatch hc), win := (by show (0 : Int) - 0 ≤ 2 ^ (bits - 1).toNat; have := two_pos (bits - 1).toNat; omega) },
      fun x hx => (nomatch hx), fun x hx => (nomatch hx), rfl, .nil, .nil, fun x hx => (nomatch hx)⟩
    clear w4 w6 w7 s6 s7 s8 n6 n7 n8 e6 e7 e8 nxs ndxs nxr ndxr
    refine frG (σ' := [some (.ref a), some (.int bits), some (.ref st), none, none, none]) rfl ?_
    (repeat walk_at "rd")
    refine op_u_law_many ⟨a, ns, 4, 12, rfl, (w8.grow.trans w8.imm).seq hS, fun z hz => ?_⟩
    have hz2 : 4 ≤ z ∧ z ≤ 12 := by rcases hz with h | h <;> rw [h] <;> decide
    clear hz
    refine frG (σ' := [some (.ref a), some (.int bits), some (.ref st), some (.int z), none, none]) rfl ?_
    refine rd_forR2 ?_
    (repeat walk_at "rd")
    refine ⟨1, 1 + z, fun i σ H' => Stop (∃ (us : UsS) (ur : UrS) (pss : List (List Int)) (pq os : List Addr) (B : Hp) (x4 x5 : Option V), Own H H [] B (c30 T.C_UpperSender T.C_UpperReceiver ps dxs ds pr dxr dr pu ou us ur pq os) H' ∧ F30 bits us ur pss pq os B ∧ B st = some (.tup [.ref ps, .ref pr, .int bits, .ref pu, .ref ou]) ∧ pss.length ≤ 12 * i ∧
      σ = [some (.ref a), some (.int bits), some (.ref st), some (.int z), x4, x5]), rfl, ⟨by omega, by omega, by omega, by omega⟩, .a ⟨_, _, _, _, _, B8, _, _, w8, f8, hB8, Nat.le_refl _, rfl⟩, fun i σ' H' hi wq => ?_, fun σ' H' wq => ?_⟩
    · obtain ⟨us, ur, pss, pq, os, B, x4, x5, w0, ff, hst, hl1, rfl⟩ := wq.un
      clear wq w8 f8
      have hib : i < 12 := by omega
      have hS0 := (w0.grow.trans w0.imm).seq hS
      (repeat walk_at "rd")
      refine op_u_law_cell ⟨a, ns, _, rfl, hS0, (by omega), ?_⟩
      (repeat walk_at "rd")
      intro t1 H5 n5 s5 e5
      have w5 := w0.more s5
      (repeat walk_at "rd")
      refine op_u_law_digits ⟨_, t1, [2, 12, 256, 20, 4, 4], rfl, sq_of e5, (by decide), (by decide), fun dss hd dg H6 n6 s6 e6 => ?_⟩
      obtain ⟨d0, dr1, rfl, k0, hd⟩ := hd.un
      obtain ⟨d1, dr2, rfl, k1, hd⟩ := hd.un
      obtain ⟨d2, dr3, rfl, k2, hd⟩ := hd.un
      obtain ⟨d3, dr4, rfl, k3, hd⟩ := hd.un
      obtain ⟨d4, dr5, rfl, k4, hd⟩ := hd.un
      obtain ⟨d5, dr6, rfl, k5, hd⟩ := hd.un
      obtain rfl := hd.end
      obtain ⟨B6, sB6, hB6, _, w6⟩ := w5.ro n6 s6 e6
      refine frG (σ' := [some (.ref a), some (.int bits), some (.ref st), some (.int z), some (.int (1 + (i : Int))), some (.ref dg)]) rfl ?_
      (repeat walk_at "rd")
      refine op_u_law_stay ⟨st, 1 + (i : Int), dg, false, d0, d1, d2, d3, d4, d5, bits, ps, dxs, ds, pr, dxr, dr, pu, ou, us, ur, pss, pq, os, B6, rfl, sB6 _ _ hst, hB6, ⟨⟨by omega, by omega⟩, k2, ⟨by omega, by omega⟩, ⟨by omega, by omega⟩, ⟨by omega, by omega⟩⟩, ⟨by omega, by omega⟩, w6.c, ff.mono sB6, by omega, fun us2 ur2 pss2 pq2 os2 B8 H8 w8' f8 hl3 _ => ?_⟩
      (repeat walk_at "rd")
      exact .a ⟨us2, ur2, pss2, pq2, os2, B8, _, _, w6.call0 w8', f8, w8'.grow _ _ (sB6 _ _ hst), by omega, rfl⟩
    · obtain ⟨us, ur, pss, pq, os, B, x4, x5, w0, ff, hst, hl1, rfl⟩ := wq.un
      clear wq w8 f8
      (repeat walk_at "rd")
      intro dg H6 n6 s6 e6
      have e6' : H6 dg = some (.lst (([0, 0, 0, 0, 0, 0] : List Int).map V.int)) := e6
      obtain ⟨B6, sB6, hB6, _, w6⟩ := w0.ro n6 s6 e6'
      (repeat walk_at "rd")
      refine op_u_law_stay ⟨st, z + 1, dg, true, 0, 0, 0, 0, 0, 0, bits, ps, dxs, ds, pr, dxr, dr, pu, ou, us, ur, pss, pq, os, B6, rfl, sB6 _ _ hst, hB6, by decide, ⟨by omega, by omega⟩, w6.c, ff.mono sB6, by omega, fun us2 ur2 pss2 pq2 os2 B8 H8 w8' f8 hl3 hpk => ?_⟩
      have hpk0 := hpk rfl
      have w8 := w6.call0 w8'
      have hst8 := w8.imm _ _ (w8'.grow _ _ (sB6 _ _ hst))
      obtain ⟨hfn, hrk0⟩ := f8.ok.whole (fun c hc => by rw [hpk0] at hc; exact nomatch hc)
      have hou8 := w8.mem (p := ou) (.tail _ (.tail _ (.tail _ (.tail _ (.tail _ (.head _))))))
      have hpu8 := w8.mem (p := pu) (.tail _ (.tail _ (.tail _ (.tail _ (.head _)))))
      have hps8 := w8.mem (p := ps) (.head _)
      have hds8 := w8.mem (p := ds) (.tail _ (.head _))
      (repeat walk_at "rd")
      refine rd_ixT (st_of hst8) rfl ?_
      (repeat walk_at "rd")
      refine rd_ixT (st_of hst8) rfl ?_
      (repeat walk_at "rd")
      refine rd_eqLL (sq_of hou8) (f8.oL.mono w8.imm) (sq_of hpu8) (f8.pL.mono w8.imm) ?_
      refine ⟨_, rfl, ?_⟩
      refine br_t ?_ ?_
      · rw [hfn, f8.ok.nx, Int.toNat_natCast, fromP_take _ _ (Nat.le_refl _), List.take_length]
      (repeat walk_at "rd")
      refine rd_ixT (st_of hst8) rfl ?_
      (repeat walk_at "rd")
      refine op_UpperSender_unconfirmed ⟨ps, dxs, ds, us2, rfl, hps8, hds8, f8.ok.uok, f8.hk.mono w8.imm, by rw [hpk0]; exact Nat.zero_le _, fun D13 ts13 qs13 H13 hD13 io13 => ?_⟩
      (repeat walk_at "rd")
      intro t14 H14 n14 s14 e14
      (repeat walk_at "rd")
      refine rd_eqA (n := 3) (m := 1) (kxD (pkX us2.pk)) (.list []) (IO.dp ⟨io13.sm.trans s14, s14 _ _ io13.at', io13.ls.mono s14, io13.frt, io13.frq, io13.nd⟩) (.lst (sq_of e14) .nil) (sh_kx _) (sh_lst sh_nil) ?_
      rw [eqv_kx_nil, hpk0]
      refine ⟨_, rfl, ?_⟩
      refine br_t rfl ?_
      have w14 := (w8.more io13.sm).more s14
      have hst14 := w14.imm _ _ (w8'.grow _ _ (sB6 _ _ hst))
      have hpr14 := w14.mem (p := pr) (.tail _ (.tail _ (.head _)))
      have hdr14 := w14.mem (p := dr) (.tail _ (.tail _ (.tail _ (.head _))))
      (repeat walk_at "rd")
      refine rd_ixT (st_of hst14) rfl ?_
      (repeat walk_at "rd")
      refine op_UpperReceiver_held ⟨pr, dxr, dr, ur2, rfl, hpr14, hdr14, f8.ok.rok, f8.hkr.mono w14.imm, by rw [hrk0]; exact Nat.zero_le _, fun k15 hkp _ D15 ts15 qs15 H15 hD15 io15 => ?_⟩
      have hk15 : k15 = [] := by
        rw [hrk0] at hkp
        exact hkp.eq_nil
      subst hk15
      (repeat walk_at "rd")
      intro t16 H16 n16 s16 e16
      refine rd_eqA (n := 3) (m := 1) (kxD []) (.list []) (IO.dp ⟨io15.sm.trans s16, s16 _ _ io15.at', io15.ls.mono s16, io15.frt, io15.frq, io15.nd⟩) (.lst (sq_of e16) .nil) (sh_kx _) (sh_lst sh_nil) ?_
      rw [eqv_kx_nil]
      exact q _
end
end My
namespace My
open PySem L2
theorem all_mk {P : Program} {w : World} {K : PySem.W.Frag} {h : Heap} {mg : Str → Option Value} {fa : Addr} (X : K.In h) (G : h.Ns mainGlobals mg) (hfa : mg "law" = some (.ref fa))
    {tk_MODULUS : Tok}
    {tk_MARK_MASK : Tok}
    {tk_TAIL_BYTES : Tok}
    {C_BearerError : Addr}
    {C_NotValid : Addr}
    {C_UpperSender : Addr}
    {C_UpperReceiver : Addr}
    {f_u_wall : Addr} {od_u_wall an_u_wall : Option Addr} {sl_u_wall : Array (Option Value)} {oc_u_wall kV_u_wall dc_u_wall pm_u_wall cd_u_wall ct_u_wall : Value}
    {f_window_size : Addr} {od_window_size an_window_size : Option Addr} {sl_window_size : Array (Option Value)} {oc_window_size kV_window_size dc_window_size pm_window_size cd_window_size ct_window_size : Value}
    {f_distance : Addr} {od_distance an_distance : Option Addr} {sl_distance : Array (Option Value)} {oc_distance kV_distance dc_distance pm_distance cd_distance ct_distance : Value}
    {f_read_short : Addr} {od_read_short an_read_short : Option Addr} {sl_read_short : Array (Option Value)} {oc_read_short kV_read_short dc_read_short pm_read_short cd_read_short ct_read_short : Value}
    {f_short_of : Addr} {od_short_of an_short_of : Option Addr} {sl_short_of : Array (Option Value)} {oc_short_of kV_short_of dc_short_of pm_short_of cd_short_of ct_short_of : Value}
    {f_window : Addr} {od_window an_window : Option Addr} {sl_window : Array (Option Value)} {oc_window kV_window dc_window pm_window cd_window ct_window : Value}
    {f_count_near : Addr} {od_count_near an_count_near : Option Addr} {sl_count_near : Array (Option Value)} {oc_count_near kV_count_near dc_count_near pm_count_near cd_count_near ct_count_near : Value}
    {f_BearerError___init__ : Addr} {od_BearerError___init__ an_BearerError___init__ : Option Addr} {sl_BearerError___init__ : Array (Option Value)} {oc_BearerError___init__ kV_BearerError___init__ dc_BearerError___init__ pm_BearerError___init__ cd_BearerError___init__ ct_BearerError___init__ : Value}
    {f_u_in_order : Addr} {od_u_in_order an_u_in_order : Option Addr} {sl_u_in_order : Array (Option Value)} {oc_u_in_order kV_u_in_order dc_u_in_order pm_u_in_order cd_u_in_order ct_u_in_order : Value}
    {f_UpperSender___init__ : Addr} {od_UpperSender___init__ an_UpperSender___init__ : Option Addr} {sl_UpperSender___init__ : Array (Option Value)} {oc_UpperSender___init__ kV_UpperSender___init__ dc_UpperSender___init__ pm_UpperSender___init__ cd_UpperSender___init__ ct_UpperSender___init__ : Value}
    {f_UpperSender_may_add : Addr} {od_UpperSender_may_add an_UpperSender_may_add : Option Addr} {sl_UpperSender_may_add : Array (Option Value)} {oc_UpperSender_may_add kV_UpperSender_may_add dc_UpperSender_may_add pm_UpperSender_may_add cd_UpperSender_may_add ct_UpperSender_may_add : Value}
    {f_UpperSender_add : Addr} {od_UpperSender_add an_UpperSender_add : Option Addr} {sl_UpperSender_add : Array (Option Value)} {oc_UpperSender_add kV_UpperSender_add dc_UpperSender_add pm_UpperSender_add cd_UpperSender_add ct_UpperSender_add : Value}
    {f_UpperSender_next_count : Addr} {od_UpperSender_next_count an_UpperSender_next_count : Option Addr} {sl_UpperSender_next_count : Array (Option Value)} {oc_UpperSender_next_count kV_UpperSender_next_count dc_UpperSender_next_count pm_UpperSender_next_count cd_UpperSender_next_count ct_UpperSender_next_count : Value}
    {f_UpperSender_base : Addr} {od_UpperSender_base an_UpperSender_base : Option Addr} {sl_UpperSender_base : Array (Option Value)} {oc_UpperSender_base kV_UpperSender_base dc_UpperSender_base pm_UpperSender_base cd_UpperSender_base ct_UpperSender_base : Value}
    {f_UpperSender_unconfirmed : Addr} {od_UpperSender_unconfirmed an_UpperSender_unconfirmed : Option Addr} {sl_UpperSender_unconfirmed : Array (Option Value)} {oc_UpperSender_unconfirmed kV_UpperSender_unconfirmed dc_UpperSender_unconfirmed pm_UpperSender_unconfirmed cd_UpperSender_unconfirmed ct_UpperSender_unconfirmed : Value}
    {f_UpperSender_confirm : Addr} {od_UpperSender_confirm an_UpperSender_confirm : Option Addr} {sl_UpperSender_confirm : Array (Option Value)} {oc_UpperSender_confirm kV_UpperSender_confirm dc_UpperSender_confirm pm_UpperSender_confirm cd_UpperSender_confirm ct_UpperSender_confirm : Value}
    {f_UpperSender_take_report : Addr} {od_UpperSender_take_report an_UpperSender_take_report : Option Addr} {sl_UpperSender_take_report : Array (Option Value)} {oc_UpperSender_take_report kV_UpperSender_take_report dc_UpperSender_take_report pm_UpperSender_take_report cd_UpperSender_take_report ct_UpperSender_take_report : Value}
    {f_UpperReceiver___init__ : Addr} {od_UpperReceiver___init__ an_UpperReceiver___init__ : Option Addr} {sl_UpperReceiver___init__ : Array (Option Value)} {oc_UpperReceiver___init__ kV_UpperReceiver___init__ dc_UpperReceiver___init__ pm_UpperReceiver___init__ cd_UpperReceiver___init__ ct_UpperReceiver___init__ : Value}
    {f_UpperReceiver_first_missing : Addr} {od_UpperReceiver_first_missing an_UpperReceiver_first_missing : Option Addr} {sl_UpperReceiver_first_missing : Array (Option Value)} {oc_UpperReceiver_first_missing kV_UpperReceiver_first_missing dc_UpperReceiver_first_missing pm_UpperReceiver_first_missing cd_UpperReceiver_first_missing ct_UpperReceiver_first_missing : Value}
    {f_UpperReceiver_take : Addr} {od_UpperReceiver_take an_UpperReceiver_take : Option Addr} {sl_UpperReceiver_take : Array (Option Value)} {oc_UpperReceiver_take kV_UpperReceiver_take dc_UpperReceiver_take pm_UpperReceiver_take cd_UpperReceiver_take ct_UpperReceiver_take : Value}
    {f_UpperReceiver_take_count : Addr} {od_UpperReceiver_take_count an_UpperReceiver_take_count : Option Addr} {sl_UpperReceiver_take_count : Array (Option Value)} {oc_UpperReceiver_take_count kV_UpperReceiver_take_count dc_UpperReceiver_take_count pm_UpperReceiver_take_count cd_UpperReceiver_take_count ct_UpperReceiver_take_count : Value}
    {f_UpperReceiver_report : Addr} {od_UpperReceiver_report an_UpperReceiver_report : Option Addr} {sl_UpperReceiver_report : Array (Option Value)} {oc_UpperReceiver_report kV_UpperReceiver_report dc_UpperReceiver_report pm_UpperReceiver_report cd_UpperReceiver_report ct_UpperReceiver_report : Value}
    {f_UpperReceiver_held : Addr} {od_UpperReceiver_held an_UpperReceiver_held : Option Addr} {sl_UpperReceiver_held : Array (Option Value)} {oc_UpperReceiver_held kV_UpperReceiver_held dc_UpperReceiver_held pm_UpperReceiver_held cd_UpperReceiver_held ct_UpperReceiver_held : Value}
    {f_row_of : Addr} {od_row_of an_row_of : Option Addr} {sl_row_of : Array (Option Value)} {oc_row_of kV_row_of dc_row_of pm_row_of cd_row_of ct_row_of : Value}
    {f_mark_of : Addr} {od_mark_of an_mark_of : Option Addr} {sl_mark_of : Array (Option Value)} {oc_mark_of kV_mark_of dc_mark_of pm_mark_of cd_mark_of ct_mark_of : Value}
    {f_u_with_row : Addr} {od_u_with_row an_u_with_row : Option Addr} {sl_u_with_row : Array (Option Value)} {oc_u_with_row kV_u_with_row dc_u_with_row pm_u_with_row cd_u_with_row ct_u_with_row : Value}
    {f_cover : Addr} {od_cover an_cover : Option Addr} {sl_cover : Array (Option Value)} {oc_cover kV_cover dc_cover pm_cover cd_cover ct_cover : Value}
    {f_uncover : Addr} {od_uncover an_uncover : Option Addr} {sl_uncover : Array (Option Value)} {oc_uncover kV_uncover dc_uncover pm_uncover cd_uncover ct_uncover : Value}
    {f_u_law_cell : Addr} {od_u_law_cell an_u_law_cell : Option Addr} {sl_u_law_cell : Array (Option Value)} {oc_u_law_cell kV_u_law_cell dc_u_law_cell pm_u_law_cell cd_u_law_cell ct_u_law_cell : Value}
    {f_u_law_digits : Addr} {od_u_law_digits an_u_law_digits : Option Addr} {sl_u_law_digits : Array (Option Value)} {oc_u_law_digits kV_u_law_digits dc_u_law_digits pm_u_law_digits cd_u_law_digits ct_u_law_digits : Value}
    {f_u_law_many : Addr} {od_u_law_many an_u_law_many : Option Addr} {sl_u_law_many : Array (Option Value)} {oc_u_law_many kV_u_law_many dc_u_law_many pm_u_law_many cd_u_law_many ct_u_law_many : Value}
    {f_u_law_come : Addr} {od_u_law_come an_u_law_come : Option Addr} {sl_u_law_come : Array (Option Value)} {oc_u_law_come kV_u_law_come dc_u_law_come pm_u_law_come cd_u_law_come ct_u_law_come : Value}
    {f_u_law_pieces : Addr} {od_u_law_pieces an_u_law_pieces : Option Addr} {sl_u_law_pieces : Array (Option Value)} {oc_u_law_pieces kV_u_law_pieces dc_u_law_pieces pm_u_law_pieces cd_u_law_pieces ct_u_law_pieces : Value}
    {f_u_law_stay : Addr} {od_u_law_stay an_u_law_stay : Option Addr} {sl_u_law_stay : Array (Option Value)} {oc_u_law_stay kV_u_law_stay dc_u_law_stay pm_u_law_stay cd_u_law_stay ct_u_law_stay : Value}
    {f_law : Addr} {od_law an_law : Option Addr} {sl_law : Array (Option Value)} {oc_law kV_law dc_law pm_law cd_law ct_law : Value}
    {nm_BearerError q_BearerError : Str} {N_BearerError : Addr} {bs_BearerError bm_BearerError : List Value} {sn_BearerError : List Str} {sub_BearerError : List Value} {ab_BearerError : Bool} {col_BearerError : Option Bool} {dd_BearerError : Option Addr} {m0_BearerError m1_BearerError m2_BearerError m3_BearerError m5_BearerError : Option Value}
    {nm_NotValid q_NotValid : Str} {N_NotValid : Addr} {bs_NotValid bm_NotValid : List Value} {sn_NotValid : List Str} {sub_NotValid : List Value} {ab_NotValid : Bool} {col_NotValid : Option Bool} {dd_NotValid : Option Addr} {m0_NotValid m1_NotValid m2_NotValid m3_NotValid m5_NotValid : Option Value}
    (z_len : PySem.W.nsIn K mainGlobals "len" = some none)
    (z_range : PySem.W.nsIn K mainGlobals "range" = some none)
    (z_int : PySem.W.nsIn K mainGlobals "int" = some none)
    (z_sum : PySem.W.nsIn K mainGlobals "sum" = some none)
    (z_zip : PySem.W.nsIn K mainGlobals "zip" = some none)
    (z_min : PySem.W.nsIn K mainGlobals "min" = some none)
    (z_list : PySem.W.nsIn K mainGlobals "list" = some none)
    (z_sorted : PySem.W.nsIn K mainGlobals "sorted" = some none)
    (z_MODULUS : PySem.W.nsIn K mainGlobals "MODULUS" = some (some (.int 2147483647 tk_MODULUS)))
    (z_MARK_MASK : PySem.W.nsIn K mainGlobals "MARK_MASK" = some (some (.int 23205 tk_MARK_MASK)))
    (z_TAIL_BYTES : PySem.W.nsIn K mainGlobals "TAIL_BYTES" = some (some (.int 3 tk_TAIL_BYTES)))
    (z_BearerError : PySem.W.nsIn K mainGlobals "BearerError" = some (some (.ref C_BearerError)))
    (z_NotValid : PySem.W.nsIn K mainGlobals "NotValid" = some (some (.ref C_NotValid)))
    (z_UpperSender : PySem.W.nsIn K mainGlobals "UpperSender" = some (some (.ref C_UpperSender)))
    (z_UpperReceiver : PySem.W.nsIn K mainGlobals "UpperReceiver" = some (some (.ref C_UpperReceiver)))
    (a_u_wall : PySem.W.nsIn K mainGlobals "_wall" = some (some (.ref f_u_wall)))
    (l_u_wall : K.lookup f_u_wall = some ⟨oc_u_wall, od_u_wall, .func (PySem.W.fnOf "_wall" "_wall" (defArgs S_u_wall) (defBody S_u_wall) (defScope S_u_wall) .none kV_u_wall dc_u_wall pm_u_wall an_u_wall cd_u_wall ct_u_wall), sl_u_wall⟩)
    (c_u_wall : PySem.W.codeIn K cd_u_wall "_wall" = true)
    (k_u_wall : PySem.W.keepIn K (.ref f_u_wall) = true)
    (a_window_size : PySem.W.nsIn K mainGlobals "window_size" = some (some (.ref f_window_size)))
    (l_window_size : K.lookup f_window_size = some ⟨oc_window_size, od_window_size, .func (PySem.W.fnOf "window_size" "window_size" (defArgs S_window_size) (defBody S_window_size) (defScope S_window_size) .none kV_window_size dc_window_size pm_window_size an_window_size cd_window_size ct_window_size), sl_window_size⟩)
    (c_window_size : PySem.W.codeIn K cd_window_size "window_size" = true)
    (k_window_size : PySem.W.keepIn K (.ref f_window_size) = true)
    (a_distance : PySem.W.nsIn K mainGlobals "distance" = some (some (.ref f_distance)))
    (l_distance : K.lookup f_distance = some ⟨oc_distance, od_distance, .func (PySem.W.fnOf "distance" "distance" (defArgs S_distance) (defBody S_distance) (defScope S_distance) .none kV_distance dc_distance pm_distance an_distance cd_distance ct_distance), sl_distance⟩)
    (c_distance : PySem.W.codeIn K cd_distance "distance" = true)
    (k_distance : PySem.W.keepIn K (.ref f_distance) = true)
    (a_read_short : PySem.W.nsIn K mainGlobals "read_short" = some (some (.ref f_read_short)))
    (l_read_short : K.lookup f_read_short = some ⟨oc_read_short, od_read_short, .func (PySem.W.fnOf "read_short" "read_short" (defArgs S_read_short) (defBody S_read_short) (defScope S_read_short) .none kV_read_short dc_read_short pm_read_short an_read_short cd_read_short ct_read_short), sl_read_short⟩)
    (c_read_short : PySem.W.codeIn K cd_read_short "read_short" = true)
    (k_read_short : PySem.W.keepIn K (.ref f_read_short) = true)
    (a_short_of : PySem.W.nsIn K mainGlobals "short_of" = some (some (.ref f_short_of)))
    (l_short_of : K.lookup f_short_of = some ⟨oc_short_of, od_short_of, .func (PySem.W.fnOf "short_of" "short_of" (defArgs S_short_of) (defBody S_short_of) (defScope S_short_of) .none kV_short_of dc_short_of pm_short_of an_short_of cd_short_of ct_short_of), sl_short_of⟩)
    (c_short_of : PySem.W.codeIn K cd_short_of "short_of" = true)
    (k_short_of : PySem.W.keepIn K (.ref f_short_of) = true)
    (a_window : PySem.W.nsIn K mainGlobals "window" = some (some (.ref f_window)))
    (l_window : K.lookup f_window = some ⟨oc_window, od_window, .func (PySem.W.fnOf "window" "window" (defArgs S_window) (defBody S_window) (defScope S_window) .none kV_window dc_window pm_window an_window cd_window ct_window), sl_window⟩)
    (c_window : PySem.W.codeIn K cd_window "window" = true)
    (k_window : PySem.W.keepIn K (.ref f_window) = true)
    (a_count_near : PySem.W.nsIn K mainGlobals "count_near" = some (some (.ref f_count_near)))
    (l_count_near : K.lookup f_count_near = some ⟨oc_count_near, od_count_near, .func (PySem.W.fnOf "count_near" "count_near" (defArgs S_count_near) (defBody S_count_near) (defScope S_count_near) .none kV_count_near dc_count_near pm_count_near an_count_near cd_count_near ct_count_near), sl_count_near⟩)
    (c_count_near : PySem.W.codeIn K cd_count_near "count_near" = true)
    (k_count_near : PySem.W.keepIn K (.ref f_count_near) = true)
    (a_BearerError___init__ : PySem.W.findIn K (.ref C_BearerError) "__init__" = some (some (.ref f_BearerError___init__)))
    (i_BearerError___init__ : PySem.W.isFn K (.ref f_BearerError___init__) = true)
    (l_BearerError___init__ : K.lookup f_BearerError___init__ = some ⟨oc_BearerError___init__, od_BearerError___init__, .func (PySem.W.fnOf "__init__" "BearerError.__init__" (defArgs S_BearerError___init__) (defBody S_BearerError___init__) (defScope S_BearerError___init__) .none kV_BearerError___init__ dc_BearerError___init__ pm_BearerError___init__ an_BearerError___init__ cd_BearerError___init__ ct_BearerError___init__), sl_BearerError___init__⟩)
    (c_BearerError___init__ : PySem.W.codeIn K cd_BearerError___init__ "BearerError.__init__" = true)
    (k_BearerError___init__ : PySem.W.keepIn K (.ref f_BearerError___init__) = true)
    (a_u_in_order : PySem.W.nsIn K mainGlobals "_in_order" = some (some (.ref f_u_in_order)))
    (l_u_in_order : K.lookup f_u_in_order = some ⟨oc_u_in_order, od_u_in_order, .func (PySem.W.fnOf "_in_order" "_in_order" (defArgs S_u_in_order) (defBody S_u_in_order) (defScope S_u_in_order) .none kV_u_in_order dc_u_in_order pm_u_in_order an_u_in_order cd_u_in_order ct_u_in_order), sl_u_in_order⟩)
    (c_u_in_order : PySem.W.codeIn K cd_u_in_order "_in_order" = true)
    (k_u_in_order : PySem.W.keepIn K (.ref f_u_in_order) = true)
    (a_UpperSender___init__ : PySem.W.findIn K (.ref C_UpperSender) "__init__" = some (some (.ref f_UpperSender___init__)))
    (i_UpperSender___init__ : PySem.W.isFn K (.ref f_UpperSender___init__) = true)
    (l_UpperSender___init__ : K.lookup f_UpperSender___init__ = some ⟨oc_UpperSender___init__, od_UpperSender___init__, .func (PySem.W.fnOf "__init__" "UpperSender.__init__" (defArgs S_UpperSender___init__) (defBody S_UpperSender___init__) (defScope S_UpperSender___init__) .none kV_UpperSender___init__ dc_UpperSender___init__ pm_UpperSender___init__ an_UpperSender___init__ cd_UpperSender___init__ ct_UpperSender___init__), sl_UpperSender___init__⟩)
    (c_UpperSender___init__ : PySem.W.codeIn K cd_UpperSender___init__ "UpperSender.__init__" = true)
    (k_UpperSender___init__ : PySem.W.keepIn K (.ref f_UpperSender___init__) = true)
    (a_UpperSender_may_add : PySem.W.findIn K (.ref C_UpperSender) "may_add" = some (some (.ref f_UpperSender_may_add)))
    (i_UpperSender_may_add : PySem.W.isFn K (.ref f_UpperSender_may_add) = true)
    (l_UpperSender_may_add : K.lookup f_UpperSender_may_add = some ⟨oc_UpperSender_may_add, od_UpperSender_may_add, .func (PySem.W.fnOf "may_add" "UpperSender.may_add" (defArgs S_UpperSender_may_add) (defBody S_UpperSender_may_add) (defScope S_UpperSender_may_add) .none kV_UpperSender_may_add dc_UpperSender_may_add pm_UpperSender_may_add an_UpperSender_may_add cd_UpperSender_may_add ct_UpperSender_may_add), sl_UpperSender_may_add⟩)
    (c_UpperSender_may_add : PySem.W.codeIn K cd_UpperSender_may_add "UpperSender.may_add" = true)
    (k_UpperSender_may_add : PySem.W.keepIn K (.ref f_UpperSender_may_add) = true)
    (a_UpperSender_add : PySem.W.findIn K (.ref C_UpperSender) "add" = some (some (.ref f_UpperSender_add)))
    (i_UpperSender_add : PySem.W.isFn K (.ref f_UpperSender_add) = true)
    (l_UpperSender_add : K.lookup f_UpperSender_add = some ⟨oc_UpperSender_add, od_UpperSender_add, .func (PySem.W.fnOf "add" "UpperSender.add" (defArgs S_UpperSender_add) (defBody S_UpperSender_add) (defScope S_UpperSender_add) .none kV_UpperSender_add dc_UpperSender_add pm_UpperSender_add an_UpperSender_add cd_UpperSender_add ct_UpperSender_add), sl_UpperSender_add⟩)
    (c_UpperSender_add : PySem.W.codeIn K cd_UpperSender_add "UpperSender.add" = true)
    (k_UpperSender_add : PySem.W.keepIn K (.ref f_UpperSender_add) = true)
    (a_UpperSender_next_count : PySem.W.findIn K (.ref C_UpperSender) "next_count" = some (some (.ref f_UpperSender_next_count)))
    (i_UpperSender_next_count : PySem.W.isFn K (.ref f_UpperSender_next_count) = true)
    (l_UpperSender_next_count : K.lookup f_UpperSender_next_count = some ⟨oc_UpperSender_next_count, od_UpperSender_next_count, .func (PySem.W.fnOf "next_count" "UpperSender.next_count" (defArgs S_UpperSender_next_count) (defBody S_UpperSender_next_count) (defScope S_UpperSender_next_count) .none kV_UpperSender_next_count dc_UpperSender_next_count pm_UpperSender_next_count an_UpperSender_next_count cd_UpperSender_next_count ct_UpperSender_next_count), sl_UpperSender_next_count⟩)
    (c_UpperSender_next_count : PySem.W.codeIn K cd_UpperSender_next_count "UpperSender.next_count" = true)
    (k_UpperSender_next_count : PySem.W.keepIn K (.ref f_UpperSender_next_count) = true)
    (a_UpperSender_base : PySem.W.findIn K (.ref C_UpperSender) "base" = some (some (.ref f_UpperSender_base)))
    (i_UpperSender_base : PySem.W.isFn K (.ref f_UpperSender_base) = true)
    (l_UpperSender_base : K.lookup f_UpperSender_base = some ⟨oc_UpperSender_base, od_UpperSender_base, .func (PySem.W.fnOf "base" "UpperSender.base" (defArgs S_UpperSender_base) (defBody S_UpperSender_base) (defScope S_UpperSender_base) .none kV_UpperSender_base dc_UpperSender_base pm_UpperSender_base an_UpperSender_base cd_UpperSender_base ct_UpperSender_base), sl_UpperSender_base⟩)
    (c_UpperSender_base : PySem.W.codeIn K cd_UpperSender_base "UpperSender.base" = true)
    (k_UpperSender_base : PySem.W.keepIn K (.ref f_UpperSender_base) = true)
    (a_UpperSender_unconfirmed : PySem.W.findIn K (.ref C_UpperSender) "unconfirmed" = some (some (.ref f_UpperSender_unconfirmed)))
    (i_UpperSender_unconfirmed : PySem.W.isFn K (.ref f_UpperSender_unconfirmed) = true)
    (l_UpperSender_unconfirmed : K.lookup f_UpperSender_unconfirmed = some ⟨oc_UpperSender_unconfirmed, od_UpperSender_unconfirmed, .func (PySem.W.fnOf "unconfirmed" "UpperSender.unconfirmed" (defArgs S_UpperSender_unconfirmed) (defBody S_UpperSender_unconfirmed) (defScope S_UpperSender_unconfirmed) .none kV_UpperSender_unconfirmed dc_UpperSender_unconfirmed pm_UpperSender_unconfirmed an_UpperSender_unconfirmed cd_UpperSender_unconfirmed ct_UpperSender_unconfirmed), sl_UpperSender_unconfirmed⟩)
    (c_UpperSender_unconfirmed : PySem.W.codeIn K cd_UpperSender_unconfirmed "UpperSender.unconfirmed" = true)
    (k_UpperSender_unconfirmed : PySem.W.keepIn K (.ref f_UpperSender_unconfirmed) = true)
    (a_UpperSender_confirm : PySem.W.findIn K (.ref C_UpperSender) "confirm" = some (some (.ref f_UpperSender_confirm)))
    (i_UpperSender_confirm : PySem.W.isFn K (.ref f_UpperSender_confirm) = true)
    (l_UpperSender_confirm : K.lookup f_UpperSender_confirm = some ⟨oc_UpperSender_confirm, od_UpperSender_confirm, .func (PySem.W.fnOf "confirm" "UpperSender.confirm" (defArgs S_UpperSender_confirm) (defBody S_UpperSender_confirm) (defScope S_UpperSender_confirm) .none kV_UpperSender_confirm dc_UpperSender_confirm pm_UpperSender_confirm an_UpperSender_confirm cd_UpperSender_confirm ct_UpperSender_confirm), sl_UpperSender_confirm⟩)
    (c_UpperSender_confirm : PySem.W.codeIn K cd_UpperSender_confirm "UpperSender.confirm" = true)
    (k_UpperSender_confirm : PySem.W.keepIn K (.ref f_UpperSender_confirm) = true)
    (a_UpperSender_take_report : PySem.W.findIn K (.ref C_UpperSender) "take_report" = some (some (.ref f_UpperSender_take_report)))
    (i_UpperSender_take_report : PySem.W.isFn K (.ref f_UpperSender_take_report) = true)
    (l_UpperSender_take_report : K.lookup f_UpperSender_take_report = some ⟨oc_UpperSender_take_report, od_UpperSender_take_report, .func (PySem.W.fnOf "take_report" "UpperSender.take_report" (defArgs S_UpperSender_take_report) (defBody S_UpperSender_take_report) (defScope S_UpperSender_take_report) .none kV_UpperSender_take_report dc_UpperSender_take_report pm_UpperSender_take_report an_UpperSender_take_report cd_UpperSender_take_report ct_UpperSender_take_report), sl_UpperSender_take_report⟩)
    (c_UpperSender_take_report : PySem.W.codeIn K cd_UpperSender_take_report "UpperSender.take_report" = true)
    (k_UpperSender_take_report : PySem.W.keepIn K (.ref f_UpperSender_take_report) = true)
    (a_UpperReceiver___init__ : PySem.W.findIn K (.ref C_UpperReceiver) "__init__" = some (some (.ref f_UpperReceiver___init__)))
    (i_UpperReceiver___init__ : PySem.W.isFn K (.ref f_UpperReceiver___init__) = true)
    (l_UpperReceiver___init__ : K.lookup f_UpperReceiver___init__ = some ⟨oc_UpperReceiver___init__, od_UpperReceiver___init__, .func (PySem.W.fnOf "__init__" "UpperReceiver.__init__" (defArgs S_UpperReceiver___init__) (defBody S_UpperReceiver___init__) (defScope S_UpperReceiver___init__) .none kV_UpperReceiver___init__ dc_UpperReceiver___init__ pm_UpperReceiver___init__ an_UpperReceiver___init__ cd_UpperReceiver___init__ ct_UpperReceiver___init__), sl_UpperReceiver___init__⟩)
    (c_UpperReceiver___init__ : PySem.W.codeIn K cd_UpperReceiver___init__ "UpperReceiver.__init__" = true)
    (k_UpperReceiver___init__ : PySem.W.keepIn K (.ref f_UpperReceiver___init__) = true)
    (a_UpperReceiver_first_missing : PySem.W.findIn K (.ref C_UpperReceiver) "first_missing" = some (some (.ref f_UpperReceiver_first_missing)))
    (i_UpperReceiver_first_missing : PySem.W.isFn K (.ref f_UpperReceiver_first_missing) = true)
    (l_UpperReceiver_first_missing : K.lookup f_UpperReceiver_first_missing = some ⟨oc_UpperReceiver_first_missing, od_UpperReceiver_first_missing, .func (PySem.W.fnOf "first_missing" "UpperReceiver.first_missing" (defArgs S_UpperReceiver_first_missing) (defBody S_UpperReceiver_first_missing) (defScope S_UpperReceiver_first_missing) .none kV_UpperReceiver_first_missing dc_UpperReceiver_first_missing pm_UpperReceiver_first_missing an_UpperReceiver_first_missing cd_UpperReceiver_first_missing ct_UpperReceiver_first_missing), sl_UpperReceiver_first_missing⟩)
    (c_UpperReceiver_first_missing : PySem.W.codeIn K cd_UpperReceiver_first_missing "UpperReceiver.first_missing" = true)
    (k_UpperReceiver_first_missing : PySem.W.keepIn K (.ref f_UpperReceiver_first_missing) = true)
    (a_UpperReceiver_take : PySem.W.findIn K (.ref C_UpperReceiver) "take" = some (some (.ref f_UpperReceiver_take)))
    (i_UpperReceiver_take : PySem.W.isFn K (.ref f_UpperReceiver_take) = true)
    (l_UpperReceiver_take : K.lookup f_UpperReceiver_take = some ⟨oc_UpperReceiver_take, od_UpperReceiver_take, .func (PySem.W.fnOf "take" "UpperReceiver.take" (defArgs S_UpperReceiver_take) (defBody S_UpperReceiver_take) (defScope S_UpperReceiver_take) .none kV_UpperReceiver_take dc_UpperReceiver_take pm_UpperReceiver_take an_UpperReceiver_take cd_UpperReceiver_take ct_UpperReceiver_take), sl_UpperReceiver_take⟩)
    (c_UpperReceiver_take : PySem.W.codeIn K cd_UpperReceiver_take "UpperReceiver.take" = true)
    (k_UpperReceiver_take : PySem.W.keepIn K (.ref f_UpperReceiver_take) = true)
    (a_UpperReceiver_take_count : PySem.W.findIn K (.ref C_UpperReceiver) "take_count" = some (some (.ref f_UpperReceiver_take_count)))
    (i_UpperReceiver_take_count : PySem.W.isFn K (.ref f_UpperReceiver_take_count) = true)
    (l_UpperReceiver_take_count : K.lookup f_UpperReceiver_take_count = some ⟨oc_UpperReceiver_take_count, od_UpperReceiver_take_count, .func (PySem.W.fnOf "take_count" "UpperReceiver.take_count" (defArgs S_UpperReceiver_take_count) (defBody S_UpperReceiver_take_count) (defScope S_UpperReceiver_take_count) .none kV_UpperReceiver_take_count dc_UpperReceiver_take_count pm_UpperReceiver_take_count an_UpperReceiver_take_count cd_UpperReceiver_take_count ct_UpperReceiver_take_count), sl_UpperReceiver_take_count⟩)
    (c_UpperReceiver_take_count : PySem.W.codeIn K cd_UpperReceiver_take_count "UpperReceiver.take_count" = true)
    (k_UpperReceiver_take_count : PySem.W.keepIn K (.ref f_UpperReceiver_take_count) = true)
    (a_UpperReceiver_report : PySem.W.findIn K (.ref C_UpperReceiver) "report" = some (some (.ref f_UpperReceiver_report)))
    (i_UpperReceiver_report : PySem.W.isFn K (.ref f_UpperReceiver_report) = true)
    (l_UpperReceiver_report : K.lookup f_UpperReceiver_report = some ⟨oc_UpperReceiver_report, od_UpperReceiver_report, .func (PySem.W.fnOf "report" "UpperReceiver.report" (defArgs S_UpperReceiver_report) (defBody S_UpperReceiver_report) (defScope S_UpperReceiver_report) .none kV_UpperReceiver_report dc_UpperReceiver_report pm_UpperReceiver_report an_UpperReceiver_report cd_UpperReceiver_report ct_UpperReceiver_report), sl_UpperReceiver_report⟩)
    (c_UpperReceiver_report : PySem.W.codeIn K cd_UpperReceiver_report "UpperReceiver.report" = true)
    (k_UpperReceiver_report : PySem.W.keepIn K (.ref f_UpperReceiver_report) = true)
    (a_UpperReceiver_held : PySem.W.findIn K (.ref C_UpperReceiver) "held" = some (some (.ref f_UpperReceiver_held)))
    (i_UpperReceiver_held : PySem.W.isFn K (.ref f_UpperReceiver_held) = true)
    (l_UpperReceiver_held : K.lookup f_UpperReceiver_held = some ⟨oc_UpperReceiver_held, od_UpperReceiver_held, .func (PySem.W.fnOf "held" "UpperReceiver.held" (defArgs S_UpperReceiver_held) (defBody S_UpperReceiver_held) (defScope S_UpperReceiver_held) .none kV_UpperReceiver_held dc_UpperReceiver_held pm_UpperReceiver_held an_UpperReceiver_held cd_UpperReceiver_held ct_UpperReceiver_held), sl_UpperReceiver_held⟩)
    (c_UpperReceiver_held : PySem.W.codeIn K cd_UpperReceiver_held "UpperReceiver.held" = true)
    (k_UpperReceiver_held : PySem.W.keepIn K (.ref f_UpperReceiver_held) = true)
    (a_row_of : PySem.W.nsIn K mainGlobals "row_of" = some (some (.ref f_row_of)))
    (l_row_of : K.lookup f_row_of = some ⟨oc_row_of, od_row_of, .func (PySem.W.fnOf "row_of" "row_of" (defArgs S_row_of) (defBody S_row_of) (defScope S_row_of) .none kV_row_of dc_row_of pm_row_of an_row_of cd_row_of ct_row_of), sl_row_of⟩)
    (c_row_of : PySem.W.codeIn K cd_row_of "row_of" = true)
    (k_row_of : PySem.W.keepIn K (.ref f_row_of) = true)
    (a_mark_of : PySem.W.nsIn K mainGlobals "mark_of" = some (some (.ref f_mark_of)))
    (l_mark_of : K.lookup f_mark_of = some ⟨oc_mark_of, od_mark_of, .func (PySem.W.fnOf "mark_of" "mark_of" (defArgs S_mark_of) (defBody S_mark_of) (defScope S_mark_of) .none kV_mark_of dc_mark_of pm_mark_of an_mark_of cd_mark_of ct_mark_of), sl_mark_of⟩)
    (c_mark_of : PySem.W.codeIn K cd_mark_of "mark_of" = true)
    (k_mark_of : PySem.W.keepIn K (.ref f_mark_of) = true)
    (a_u_with_row : PySem.W.nsIn K mainGlobals "_with_row" = some (some (.ref f_u_with_row)))
    (l_u_with_row : K.lookup f_u_with_row = some ⟨oc_u_with_row, od_u_with_row, .func (PySem.W.fnOf "_with_row" "_with_row" (defArgs S_u_with_row) (defBody S_u_with_row) (defScope S_u_with_row) .none kV_u_with_row dc_u_with_row pm_u_with_row an_u_with_row cd_u_with_row ct_u_with_row), sl_u_with_row⟩)
    (c_u_with_row : PySem.W.codeIn K cd_u_with_row "_with_row" = true)
    (k_u_with_row : PySem.W.keepIn K (.ref f_u_with_row) = true)
    (a_cover : PySem.W.nsIn K mainGlobals "cover" = some (some (.ref f_cover)))
    (l_cover : K.lookup f_cover = some ⟨oc_cover, od_cover, .func (PySem.W.fnOf "cover" "cover" (defArgs S_cover) (defBody S_cover) (defScope S_cover) .none kV_cover dc_cover pm_cover an_cover cd_cover ct_cover), sl_cover⟩)
    (c_cover : PySem.W.codeIn K cd_cover "cover" = true)
    (k_cover : PySem.W.keepIn K (.ref f_cover) = true)
    (a_uncover : PySem.W.nsIn K mainGlobals "uncover" = some (some (.ref f_uncover)))
    (l_uncover : K.lookup f_uncover = some ⟨oc_uncover, od_uncover, .func (PySem.W.fnOf "uncover" "uncover" (defArgs S_uncover) (defBody S_uncover) (defScope S_uncover) .none kV_uncover dc_uncover pm_uncover an_uncover cd_uncover ct_uncover), sl_uncover⟩)
    (c_uncover : PySem.W.codeIn K cd_uncover "uncover" = true)
    (k_uncover : PySem.W.keepIn K (.ref f_uncover) = true)
    (a_u_law_cell : PySem.W.nsIn K mainGlobals "_law_cell" = some (some (.ref f_u_law_cell)))
    (l_u_law_cell : K.lookup f_u_law_cell = some ⟨oc_u_law_cell, od_u_law_cell, .func (PySem.W.fnOf "_law_cell" "_law_cell" (defArgs S_u_law_cell) (defBody S_u_law_cell) (defScope S_u_law_cell) .none kV_u_law_cell dc_u_law_cell pm_u_law_cell an_u_law_cell cd_u_law_cell ct_u_law_cell), sl_u_law_cell⟩)
    (c_u_law_cell : PySem.W.codeIn K cd_u_law_cell "_law_cell" = true)
    (k_u_law_cell : PySem.W.keepIn K (.ref f_u_law_cell) = true)
    (a_u_law_digits : PySem.W.nsIn K mainGlobals "_law_digits" = some (some (.ref f_u_law_digits)))
    (l_u_law_digits : K.lookup f_u_law_digits = some ⟨oc_u_law_digits, od_u_law_digits, .func (PySem.W.fnOf "_law_digits" "_law_digits" (defArgs S_u_law_digits) (defBody S_u_law_digits) (defScope S_u_law_digits) .none kV_u_law_digits dc_u_law_digits pm_u_law_digits an_u_law_digits cd_u_law_digits ct_u_law_digits), sl_u_law_digits⟩)
    (c_u_law_digits : PySem.W.codeIn K cd_u_law_digits "_law_digits" = true)
    (k_u_law_digits : PySem.W.keepIn K (.ref f_u_law_digits) = true)
    (a_u_law_many : PySem.W.nsIn K mainGlobals "_law_many" = some (some (.ref f_u_law_many)))
    (l_u_law_many : K.lookup f_u_law_many = some ⟨oc_u_law_many, od_u_law_many, .func (PySem.W.fnOf "_law_many" "_law_many" (defArgs S_u_law_many) (defBody S_u_law_many) (defScope S_u_law_many) .none kV_u_law_many dc_u_law_many pm_u_law_many an_u_law_many cd_u_law_many ct_u_law_many), sl_u_law_many⟩)
    (c_u_law_many : PySem.W.codeIn K cd_u_law_many "_law_many" = true)
    (k_u_law_many : PySem.W.keepIn K (.ref f_u_law_many) = true)
    (a_u_law_come : PySem.W.nsIn K mainGlobals "_law_come" = some (some (.ref f_u_law_come)))
    (l_u_law_come : K.lookup f_u_law_come = some ⟨oc_u_law_come, od_u_law_come, .func (PySem.W.fnOf "_law_come" "_law_come" (defArgs S_u_law_come) (defBody S_u_law_come) (defScope S_u_law_come) .none kV_u_law_come dc_u_law_come pm_u_law_come an_u_law_come cd_u_law_come ct_u_law_come), sl_u_law_come⟩)
    (c_u_law_come : PySem.W.codeIn K cd_u_law_come "_law_come" = true)
    (k_u_law_come : PySem.W.keepIn K (.ref f_u_law_come) = true)
    (a_u_law_pieces : PySem.W.nsIn K mainGlobals "_law_pieces" = some (some (.ref f_u_law_pieces)))
    (l_u_law_pieces : K.lookup f_u_law_pieces = some ⟨oc_u_law_pieces, od_u_law_pieces, .func (PySem.W.fnOf "_law_pieces" "_law_pieces" (defArgs S_u_law_pieces) (defBody S_u_law_pieces) (defScope S_u_law_pieces) .none kV_u_law_pieces dc_u_law_pieces pm_u_law_pieces an_u_law_pieces cd_u_law_pieces ct_u_law_pieces), sl_u_law_pieces⟩)
    (c_u_law_pieces : PySem.W.codeIn K cd_u_law_pieces "_law_pieces" = true)
    (k_u_law_pieces : PySem.W.keepIn K (.ref f_u_law_pieces) = true)
    (a_u_law_stay : PySem.W.nsIn K mainGlobals "_law_stay" = some (some (.ref f_u_law_stay)))
    (l_u_law_stay : K.lookup f_u_law_stay = some ⟨oc_u_law_stay, od_u_law_stay, .func (PySem.W.fnOf "_law_stay" "_law_stay" (defArgs S_u_law_stay) (defBody S_u_law_stay) (defScope S_u_law_stay) .none kV_u_law_stay dc_u_law_stay pm_u_law_stay an_u_law_stay cd_u_law_stay ct_u_law_stay), sl_u_law_stay⟩)
    (c_u_law_stay : PySem.W.codeIn K cd_u_law_stay "_law_stay" = true)
    (k_u_law_stay : PySem.W.keepIn K (.ref f_u_law_stay) = true)
    (a_law : PySem.W.nsIn K mainGlobals "law" = some (some (.ref f_law)))
    (l_law : K.lookup f_law = some ⟨oc_law, od_law, .func (PySem.W.fnOf "law" "law" (defArgs S_law) (defBody S_law) (defScope S_law) .none kV_law dc_law pm_law an_law cd_law ct_law), sl_law⟩)
    (c_law : PySem.W.codeIn K cd_law "law" = true)
    (k_law : PySem.W.keepIn K (.ref f_law) = true)
    (xL_BearerError : K.lookup C_BearerError = some (excClassObj nm_BearerError q_BearerError C_BearerError N_BearerError bs_BearerError bm_BearerError true sn_BearerError sub_BearerError ab_BearerError col_BearerError dd_BearerError m0_BearerError m1_BearerError m2_BearerError m3_BearerError m5_BearerError "ValueError.__new__"))
    (xB_BearerError : PySem.HandSPX.refsVE bm_BearerError = true)
    (sa_BearerError : PySem.W.findIn K (.ref C_BearerError) "__setattr__" = some (some (.builtin "object.__setattr__")))
    (ex_BearerError : PySem.W.subIn K (.ref C_BearerError) (.type "BaseException") = some true)
    (ty_BearerError : PySem.W.typeIn K (.ref C_BearerError) = some (.type "type"))
    (kC_BearerError : PySem.W.keepIn K (.ref C_BearerError) = true)
    (ii_BearerError : PySem.W.findIn K (.ref C_BearerError) "__init__" = some (some (.ref f_BearerError___init__)))
    (ti_BearerError : PySem.W.typeIn K (.ref f_BearerError___init__) = some (.type "function"))
    (ga_BearerError : PySem.W.findIn K (.ref C_BearerError) "__getattribute__" = some (some (.builtin "BaseException.__getattribute__")))
    (gg_BearerError : PySem.W.findIn K (.ref C_BearerError) "__getattr__" = some none)
    (hd_BearerError : PySem.W.hasDictIn K C_BearerError = true)
    (hc_BearerError : PySem.W.findIn K (.ref C_BearerError) "__class__" = some (some (.builtin "object.__class__")))
    (mo_BearerError : PySem.W.mroIn K C_BearerError (.type "object") = some true)
    (ic_BearerError : PySem.W.isClsIn K C_BearerError = true)
    (sb_BearerError_BearerError : PySem.W.subIn K (.ref C_BearerError) (.ref C_BearerError) = some true)
    (sb_BearerError_NotValid : PySem.W.subIn K (.ref C_BearerError) (.ref C_NotValid) = some false)
    (xL_NotValid : K.lookup C_NotValid = some (excClassObj nm_NotValid q_NotValid C_NotValid N_NotValid bs_NotValid bm_NotValid true sn_NotValid sub_NotValid ab_NotValid col_NotValid dd_NotValid m0_NotValid m1_NotValid m2_NotValid m3_NotValid m5_NotValid "ValueError.__new__"))
    (xB_NotValid : PySem.HandSPX.refsVE bm_NotValid = true)
    (sa_NotValid : PySem.W.findIn K (.ref C_NotValid) "__setattr__" = some (some (.builtin "object.__setattr__")))
    (ex_NotValid : PySem.W.subIn K (.ref C_NotValid) (.type "BaseException") = some true)
    (ty_NotValid : PySem.W.typeIn K (.ref C_NotValid) = some (.type "type"))
    (kC_NotValid : PySem.W.keepIn K (.ref C_NotValid) = true)
    (ii_NotValid : PySem.W.findIn K (.ref C_NotValid) "__init__" = some (some (.ref f_BearerError___init__)))
    (ti_NotValid : PySem.W.typeIn K (.ref f_BearerError___init__) = some (.type "function"))
    (ga_NotValid : PySem.W.findIn K (.ref C_NotValid) "__getattribute__" = some (some (.builtin "BaseException.__getattribute__")))
    (gg_NotValid : PySem.W.findIn K (.ref C_NotValid) "__getattr__" = some none)
    (hd_NotValid : PySem.W.hasDictIn K C_NotValid = true)
    (hc_NotValid : PySem.W.findIn K (.ref C_NotValid) "__class__" = some (some (.builtin "object.__class__")))
    (mo_NotValid : PySem.W.mroIn K C_NotValid (.type "object") = some true)
    (ic_NotValid : PySem.W.isClsIn K C_NotValid = true)
    (sb_NotValid_BearerError : PySem.W.subIn K (.ref C_NotValid) (.ref C_BearerError) = some true)
    (sb_NotValid_NotValid : PySem.W.subIn K (.ref C_NotValid) (.ref C_NotValid) = some true)
    (pg_UpperSender : PySem.W.plainGet K C_UpperSender Str.empty = true)
    (hd_UpperSender : PySem.W.hasDictIn K C_UpperSender = true)
    (po_UpperSender : PySem.W.plainOver K C_UpperSender = true)
    (sa_UpperSender : PySem.W.findIn K (.ref C_UpperSender) "__setattr__" = some (some (.builtin "object.__setattr__")))
    (mk_UpperSender : PySem.W.makesIn K C_UpperSender = true)
    (kc_UpperSender : PySem.W.keepIn K (.ref C_UpperSender) = true)
    (nf_UpperSender__bits : PySem.W.findIn K (.ref C_UpperSender) "_bits" = some none)
    (nf_UpperSender__next : PySem.W.findIn K (.ref C_UpperSender) "_next" = some none)
    (nf_UpperSender__packets : PySem.W.findIn K (.ref C_UpperSender) "_packets" = some none)
    (pg_UpperReceiver : PySem.W.plainGet K C_UpperReceiver Str.empty = true)
    (hd_UpperReceiver : PySem.W.hasDictIn K C_UpperReceiver = true)
    (po_UpperReceiver : PySem.W.plainOver K C_UpperReceiver = true)
    (sa_UpperReceiver : PySem.W.findIn K (.ref C_UpperReceiver) "__setattr__" = some (some (.builtin "object.__setattr__")))
    (mk_UpperReceiver : PySem.W.makesIn K C_UpperReceiver = true)
    (kc_UpperReceiver : PySem.W.keepIn K (.ref C_UpperReceiver) = true)
    (nf_UpperReceiver__bits : PySem.W.findIn K (.ref C_UpperReceiver) "_bits" = some none)
    (nf_UpperReceiver__first : PySem.W.findIn K (.ref C_UpperReceiver) "_first" = some none)
    (nf_UpperReceiver__ahead : PySem.W.findIn K (.ref C_UpperReceiver) "_ahead" = some none)
    (sn_get : PySem.W.specialIn K (.builtin "object.__class__") "__get__" = some (some (.builtin "getset_descriptor.__get__")))
    (tk_get : PySem.W.takesIn K (.builtin "object.__class__") = some true)
    : ∃ fd : FuncData, (∀ (s : Shared) (v : Value), BindsTo s fd ⟨[v], []⟩ [("script", v)]) ∧ ∀ base : Heap, K.In base → base.Ns mainGlobals mg → FnOk P w K mg base CX0 7 fa fd ["script"] (ip_law K) := by
  have e := hfa.symm.trans (PySem.W.mg_of X G a_law)
  cases e
  have F_u_wall := fun_mk (st := S_u_wall) l_u_wall c_u_wall k_u_wall
  have b_u_wall := F_u_wall.binds (ps := ["k"]) fun _ _ _ _ _ _ us hl => match us, hl with | [_], _ => rfl
  have F_window_size := fun_mk (st := S_window_size) l_window_size c_window_size k_window_size
  have b_window_size := F_window_size.binds (ps := ["bits"]) fun _ _ _ _ _ _ us hl => match us, hl with | [_], _ => rfl
  have F_distance := fun_mk (st := S_distance) l_distance c_distance k_distance
  have b_distance := F_distance.binds (ps := ["base", "value", "bits"]) fun _ _ _ _ _ _ us hl => match us, hl with | [_, _, _], _ => rfl
  have F_read_short := fun_mk (st := S_read_short) l_read_short c_read_short k_read_short
  have b_read_short := F_read_short.binds (ps := ["value", "base", "behind", "bits"]) fun _ _ _ _ _ _ us hl => match us, hl with | [_, _, _, _], _ => rfl
  have F_short_of := fun_mk (st := S_short_of) l_short_of c_short_of k_short_of
  have b_short_of := F_short_of.binds (ps := ["count", "bits"]) fun _ _ _ _ _ _ us hl => match us, hl with | [_, _], _ => rfl
  have F_window := fun_mk (st := S_window) l_window c_window k_window
  have b_window := F_window.binds (ps := ["bits"]) fun _ _ _ _ _ _ us hl => match us, hl with | [_], _ => rfl
  have F_count_near := fun_mk (st := S_count_near) l_count_near c_count_near k_count_near
  have b_count_near := F_count_near.binds (ps := ["expected", "short", "bits"]) fun _ _ _ _ _ _ us hl => match us, hl with | [_, _, _], _ => rfl
  have F_BearerError___init__ := fun_mk (st := S_BearerError___init__) l_BearerError___init__ c_BearerError___init__ k_BearerError___init__
  have b_BearerError___init__ := F_BearerError___init__.binds (ps := ["self"]) fun _ _ _ _ _ _ us hl => match us, hl with | [_], _ => rfl
  have F_u_in_order := fun_mk (st := S_u_in_order) l_u_in_order c_u_in_order k_u_in_order
  have b_u_in_order := F_u_in_order.binds (ps := ["packets"]) fun _ _ _ _ _ _ us hl => match us, hl with | [_], _ => rfl
  have F_UpperSender___init__ := fun_mk (st := S_UpperSender___init__) l_UpperSender___init__ c_UpperSender___init__ k_UpperSender___init__
  have b_UpperSender___init__ := F_UpperSender___init__.binds (ps := ["self", "bits"]) fun _ _ _ _ _ _ us hl => match us, hl with | [_, _], _ => rfl
  have F_UpperSender_may_add := fun_mk (st := S_UpperSender_may_add) l_UpperSender_may_add c_UpperSender_may_add k_UpperSender_may_add
  have b_UpperSender_may_add := F_UpperSender_may_add.binds (ps := ["self"]) fun _ _ _ _ _ _ us hl => match us, hl with | [_], _ => rfl
  have F_UpperSender_add := fun_mk (st := S_UpperSender_add) l_UpperSender_add c_UpperSender_add k_UpperSender_add
  have b_UpperSender_add := F_UpperSender_add.binds (ps := ["self", "packet"]) fun _ _ _ _ _ _ us hl => match us, hl with | [_, _], _ => rfl
  have F_UpperSender_next_count := fun_mk (st := S_UpperSender_next_count) l_UpperSender_next_count c_UpperSender_next_count k_UpperSender_next_count
  have b_UpperSender_next_count := F_UpperSender_next_count.binds (ps := ["self"]) fun _ _ _ _ _ _ us hl => match us, hl with | [_], _ => rfl
  have F_UpperSender_base := fun_mk (st := S_UpperSender_base) l_UpperSender_base c_UpperSender_base k_UpperSender_base
  have b_UpperSender_base := F_UpperSender_base.binds (ps := ["self"]) fun _ _ _ _ _ _ us hl => match us, hl with | [_], _ => rfl
  have F_UpperSender_unconfirmed := fun_mk (st := S_UpperSender_unconfirmed) l_UpperSender_unconfirmed c_UpperSender_unconfirmed k_UpperSender_unconfirmed
  have b_UpperSender_unconfirmed := F_UpperSender_unconfirmed.binds (ps := ["self"]) fun _ _ _ _ _ _ us hl => match us, hl with | [_], _ => rfl
  have F_UpperSender_confirm := fun_mk (st := S_UpperSender_confirm) l_UpperSender_confirm c_UpperSender_confirm k_UpperSender_confirm
  have b_UpperSender_confirm := F_UpperSender_confirm.binds (ps := ["self", "count"]) fun _ _ _ _ _ _ us hl => match us, hl with | [_, _], _ => rfl
  have F_UpperSender_take_report := fun_mk (st := S_UpperSender_take_report) l_UpperSender_take_report c_UpperSender_take_report k_UpperSender_take_report
  have b_UpperSender_take_report := F_UpperSender_take_report.binds (ps := ["self", "first", "later"]) fun _ _ _ _ _ _ us hl => match us, hl with | [_, _, _], _ => rfl
  have F_UpperReceiver___init__ := fun_mk (st := S_UpperReceiver___init__) l_UpperReceiver___init__ c_UpperReceiver___init__ k_UpperReceiver___init__
  have b_UpperReceiver___init__ := F_UpperReceiver___init__.binds (ps := ["self", "bits"]) fun _ _ _ _ _ _ us hl => match us, hl with | [_, _], _ => rfl
  have F_UpperReceiver_first_missing := fun_mk (st := S_UpperReceiver_first_missing) l_UpperReceiver_first_missing c_UpperReceiver_first_missing k_UpperReceiver_first_missing
  have b_UpperReceiver_first_missing := F_UpperReceiver_first_missing.binds (ps := ["self"]) fun _ _ _ _ _ _ us hl => match us, hl with | [_], _ => rfl
  have F_UpperReceiver_take := fun_mk (st := S_UpperReceiver_take) l_UpperReceiver_take c_UpperReceiver_take k_UpperReceiver_take
  have b_UpperReceiver_take := F_UpperReceiver_take.binds (ps := ["self", "short", "packet"]) fun _ _ _ _ _ _ us hl => match us, hl with | [_, _, _], _ => rfl
  have F_UpperReceiver_take_count := fun_mk (st := S_UpperReceiver_take_count) l_UpperReceiver_take_count c_UpperReceiver_take_count k_UpperReceiver_take_count
  have b_UpperReceiver_take_count := F_UpperReceiver_take_count.binds (ps := ["self", "count", "packet"]) fun _ _ _ _ _ _ us hl => match us, hl with | [_, _, _], _ => rfl
  have F_UpperReceiver_report := fun_mk (st := S_UpperReceiver_report) l_UpperReceiver_report c_UpperReceiver_report k_UpperReceiver_report
  have b_UpperReceiver_report := F_UpperReceiver_report.binds (ps := ["self"]) fun _ _ _ _ _ _ us hl => match us, hl with | [_], _ => rfl
  have F_UpperReceiver_held := fun_mk (st := S_UpperReceiver_held) l_UpperReceiver_held c_UpperReceiver_held k_UpperReceiver_held
  have b_UpperReceiver_held := F_UpperReceiver_held.binds (ps := ["self"]) fun _ _ _ _ _ _ us hl => match us, hl with | [_], _ => rfl
  have F_row_of := fun_mk (st := S_row_of) l_row_of c_row_of k_row_of
  have b_row_of := F_row_of.binds (ps := ["key", "bearer", "way", "count", "size"]) fun _ _ _ _ _ _ us hl => match us, hl with | [_, _, _, _, _], _ => rfl
  have F_mark_of := fun_mk (st := S_mark_of) l_mark_of c_mark_of k_mark_of
  have b_mark_of := F_mark_of.binds (ps := ["key", "bearer", "way", "count"]) fun _ _ _ _ _ _ us hl => match us, hl with | [_, _, _, _], _ => rfl
  have F_u_with_row := fun_mk (st := S_u_with_row) l_u_with_row c_u_with_row k_u_with_row
  have b_u_with_row := F_u_with_row.binds (ps := ["row", "packet"]) fun _ _ _ _ _ _ us hl => match us, hl with | [_, _], _ => rfl
  have F_cover := fun_mk (st := S_cover) l_cover c_cover k_cover
  have b_cover := F_cover.binds (ps := ["key", "bearer", "way", "count", "packet"]) fun _ _ _ _ _ _ us hl => match us, hl with | [_, _, _, _, _], _ => rfl
  have F_uncover := fun_mk (st := S_uncover) l_uncover c_uncover k_uncover
  have b_uncover := F_uncover.binds (ps := ["key", "bearer", "way", "count", "covered"]) fun _ _ _ _ _ _ us hl => match us, hl with | [_, _, _, _, _], _ => rfl
  have F_u_law_cell := fun_mk (st := S_u_law_cell) l_u_law_cell c_u_law_cell k_u_law_cell
  have b_u_law_cell := F_u_law_cell.binds (ps := ["script", "k"]) fun _ _ _ _ _ _ us hl => match us, hl with | [_, _], _ => rfl
  have F_u_law_digits := fun_mk (st := S_u_law_digits) l_u_law_digits c_u_law_digits k_u_law_digits
  have b_u_law_digits := F_u_law_digits.binds (ps := ["cell", "bases"]) fun _ _ _ _ _ _ us hl => match us, hl with | [_, _], _ => rfl
  have F_u_law_many := fun_mk (st := S_u_law_many) l_u_law_many c_u_law_many k_u_law_many
  have b_u_law_many := F_u_law_many.binds (ps := ["script", "few", "many"]) fun _ _ _ _ _ _ us hl => match us, hl with | [_, _, _], _ => rfl
  have F_u_law_come := fun_mk (st := S_u_law_come) l_u_law_come c_u_law_come k_u_law_come
  have b_u_law_come := F_u_law_come.binds (ps := ["receiver", "bits", "key", "piece"]) fun _ _ _ _ _ _ us hl => match us, hl with | [_, _, _, _], _ => rfl
  have F_u_law_pieces := fun_mk (st := S_u_law_pieces) l_u_law_pieces c_u_law_pieces k_u_law_pieces
  have b_u_law_pieces := F_u_law_pieces.binds (ps := ["sender", "bits", "key", "first"]) fun _ _ _ _ _ _ us hl => match us, hl with | [_, _, _, _], _ => rfl
  have F_u_law_stay := fun_mk (st := S_u_law_stay) l_u_law_stay c_u_law_stay k_u_law_stay
  have b_u_law_stay := F_u_law_stay.binds (ps := ["state", "key", "digits", "lossless"]) fun _ _ _ _ _ _ us hl => match us, hl with | [_, _, _, _], _ => rfl
  have F_law := fun_mk (st := S_law) l_law c_law k_law
  have b_law := F_law.binds (ps := ["script"]) fun _ _ _ _ _ _ us hl => match us, hl with | [_], _ => rfl
  refine ⟨PySem.W.fnOf "law" "law" (defArgs S_law) (defBody S_law) (defScope S_law) .none kV_law dc_law pm_law an_law cd_law ct_law, fun s v => .of_eq rfl, fun base _ _ => ?_⟩
  exact ok_law (T := ({
      n_len := PySem.W.mg_none_of X G z_len,
      n_range := PySem.W.mg_none_of X G z_range,
      n_int := PySem.W.mg_none_of X G z_int,
      n_sum := PySem.W.mg_none_of X G z_sum,
      n_zip := PySem.W.mg_none_of X G z_zip,
      n_min := PySem.W.mg_none_of X G z_min,
      n_list := PySem.W.mg_none_of X G z_list,
      n_sorted := PySem.W.mg_none_of X G z_sorted,
      g_MODULUS := ⟨tk_MODULUS, PySem.W.mg_of X G z_MODULUS⟩,
      g_MARK_MASK := ⟨tk_MARK_MASK, PySem.W.mg_of X G z_MARK_MASK⟩,
      g_TAIL_BYTES := ⟨tk_TAIL_BYTES, PySem.W.mg_of X G z_TAIL_BYTES⟩,
      C_BearerError := C_BearerError,
      g_BearerError := PySem.W.mg_of X G z_BearerError,
      C_NotValid := C_NotValid,
      g_NotValid := PySem.W.mg_of X G z_NotValid,
      C_UpperSender := C_UpperSender,
      g_UpperSender := PySem.W.mg_of X G z_UpperSender,
      C_UpperReceiver := C_UpperReceiver,
      g_UpperReceiver := PySem.W.mg_of X G z_UpperReceiver,
      a_u_wall := _,
      d_u_wall := _,
      p_u_wall := ⟨F_u_wall, b_u_wall, PySem.W.mg_of X G a_u_wall⟩,
      a_window_size := _,
      d_window_size := _,
      p_window_size := ⟨F_window_size, b_window_size, PySem.W.mg_of X G a_window_size⟩,
      a_distance := _,
      d_distance := _,
      p_distance := ⟨F_distance, b_distance, PySem.W.mg_of X G a_distance⟩,
      a_read_short := _,
      d_read_short := _,
      p_read_short := ⟨F_read_short, b_read_short, PySem.W.mg_of X G a_read_short⟩,
      a_short_of := _,
      d_short_of := _,
      p_short_of := ⟨F_short_of, b_short_of, PySem.W.mg_of X G a_short_of⟩,
      a_window := _,
      d_window := _,
      p_window := ⟨F_window, b_window, PySem.W.mg_of X G a_window⟩,
      a_count_near := _,
      d_count_near := _,
      p_count_near := ⟨F_count_near, b_count_near, PySem.W.mg_of X G a_count_near⟩,
      a_BearerError___init__ := _,
      d_BearerError___init__ := _,
      p_BearerError___init__ := ⟨F_BearerError___init__, b_BearerError___init__⟩,
      a_u_in_order := _,
      d_u_in_order := _,
      p_u_in_order := ⟨F_u_in_order, b_u_in_order, PySem.W.mg_of X G a_u_in_order⟩,
      a_UpperSender___init__ := _,
      d_UpperSender___init__ := _,
      p_UpperSender___init__ := ⟨F_UpperSender___init__, b_UpperSender___init__, ⟨a_UpperSender___init__, i_UpperSender___init__, k_UpperSender___init__⟩⟩,
      a_UpperSender_may_add := _,
      d_UpperSender_may_add := _,
      p_UpperSender_may_add := ⟨F_UpperSender_may_add, b_UpperSender_may_add, ⟨a_UpperSender_may_add, i_UpperSender_may_add, k_UpperSender_may_add⟩⟩,
      a_UpperSender_add := _,
      d_UpperSender_add := _,
      p_UpperSender_add := ⟨F_UpperSender_add, b_UpperSender_add, ⟨a_UpperSender_add, i_UpperSender_add, k_UpperSender_add⟩⟩,
      a_UpperSender_next_count := _,
      d_UpperSender_next_count := _,
      p_UpperSender_next_count := ⟨F_UpperSender_next_count, b_UpperSender_next_count, ⟨a_UpperSender_next_count, i_UpperSender_next_count, k_UpperSender_next_count⟩⟩,
      a_UpperSender_base := _,
      d_UpperSender_base := _,
      p_UpperSender_base := ⟨F_UpperSender_base, b_UpperSender_base, ⟨a_UpperSender_base, i_UpperSender_base, k_UpperSender_base⟩⟩,
      a_UpperSender_unconfirmed := _,
      d_UpperSender_unconfirmed := _,
      p_UpperSender_unconfirmed := ⟨F_UpperSender_unconfirmed, b_UpperSender_unconfirmed, ⟨a_UpperSender_unconfirmed, i_UpperSender_unconfirmed, k_UpperSender_unconfirmed⟩⟩,
      a_UpperSender_confirm := _,
      d_UpperSender_confirm := _,
      p_UpperSender_confirm := ⟨F_UpperSender_confirm, b_UpperSender_confirm, ⟨a_UpperSender_confirm, i_UpperSender_confirm, k_UpperSender_confirm⟩⟩,
      a_UpperSender_take_report := _,
      d_UpperSender_take_report := _,
      p_UpperSender_take_report := ⟨F_UpperSender_take_report, b_UpperSender_take_report, ⟨a_UpperSender_take_report, i_UpperSender_take_report, k_UpperSender_take_report⟩⟩,
      a_UpperReceiver___init__ := _,
      d_UpperReceiver___init__ := _,
      p_UpperReceiver___init__ := ⟨F_UpperReceiver___init__, b_UpperReceiver___init__, ⟨a_UpperReceiver___init__, i_UpperReceiver___init__, k_UpperReceiver___init__⟩⟩,
      a_UpperReceiver_first_missing := _,
      d_UpperReceiver_first_missing := _,
      p_UpperReceiver_first_missing := ⟨F_UpperReceiver_first_missing, b_UpperReceiver_first_missing, ⟨a_UpperReceiver_first_missing, i_UpperReceiver_first_missing, k_UpperReceiver_first_missing⟩⟩,
      a_UpperReceiver_take := _,
      d_UpperReceiver_take := _,
      p_UpperReceiver_take := ⟨F_UpperReceiver_take, b_UpperReceiver_take, ⟨a_UpperReceiver_take, i_UpperReceiver_take, k_UpperReceiver_take⟩⟩,
      a_UpperReceiver_take_count := _,
      d_UpperReceiver_take_count := _,
      p_UpperReceiver_take_count := ⟨F_UpperReceiver_take_count, b_UpperReceiver_take_count, ⟨a_UpperReceiver_take_count, i_UpperReceiver_take_count, k_UpperReceiver_take_count⟩⟩,
      a_UpperReceiver_report := _,
      d_UpperReceiver_report := _,
      p_UpperReceiver_report := ⟨F_UpperReceiver_report, b_UpperReceiver_report, ⟨a_UpperReceiver_report, i_UpperReceiver_report, k_UpperReceiver_report⟩⟩,
      a_UpperReceiver_held := _,
      d_UpperReceiver_held := _,
      p_UpperReceiver_held := ⟨F_UpperReceiver_held, b_UpperReceiver_held, ⟨a_UpperReceiver_held, i_UpperReceiver_held, k_UpperReceiver_held⟩⟩,
      a_row_of := _,
      d_row_of := _,
      p_row_of := ⟨F_row_of, b_row_of, PySem.W.mg_of X G a_row_of⟩,
      a_mark_of := _,
      d_mark_of := _,
      p_mark_of := ⟨F_mark_of, b_mark_of, PySem.W.mg_of X G a_mark_of⟩,
      a_u_with_row := _,
      d_u_with_row := _,
      p_u_with_row := ⟨F_u_with_row, b_u_with_row, PySem.W.mg_of X G a_u_with_row⟩,
      a_cover := _,
      d_cover := _,
      p_cover := ⟨F_cover, b_cover, PySem.W.mg_of X G a_cover⟩,
      a_uncover := _,
      d_uncover := _,
      p_uncover := ⟨F_uncover, b_uncover, PySem.W.mg_of X G a_uncover⟩,
      a_u_law_cell := _,
      d_u_law_cell := _,
      p_u_law_cell := ⟨F_u_law_cell, b_u_law_cell, PySem.W.mg_of X G a_u_law_cell⟩,
      a_u_law_digits := _,
      d_u_law_digits := _,
      p_u_law_digits := ⟨F_u_law_digits, b_u_law_digits, PySem.W.mg_of X G a_u_law_digits⟩,
      a_u_law_many := _,
      d_u_law_many := _,
      p_u_law_many := ⟨F_u_law_many, b_u_law_many, PySem.W.mg_of X G a_u_law_many⟩,
      a_u_law_come := _,
      d_u_law_come := _,
      p_u_law_come := ⟨F_u_law_come, b_u_law_come, PySem.W.mg_of X G a_u_law_come⟩,
      a_u_law_pieces := _,
      d_u_law_pieces := _,
      p_u_law_pieces := ⟨F_u_law_pieces, b_u_law_pieces, PySem.W.mg_of X G a_u_law_pieces⟩,
      a_u_law_stay := _,
      d_u_law_stay := _,
      p_u_law_stay := ⟨F_u_law_stay, b_u_law_stay, PySem.W.mg_of X G a_u_law_stay⟩,
      a_law := _,
      d_law := _,
      p_law := ⟨F_law, b_law, PySem.W.mg_of X G a_law⟩,
      o_BearerError := ⟨⟨nm_BearerError, q_BearerError, N_BearerError, bs_BearerError, bm_BearerError, sn_BearerError, sub_BearerError, ab_BearerError, col_BearerError, dd_BearerError, m0_BearerError, m1_BearerError, m2_BearerError, m3_BearerError, m5_BearerError, xL_BearerError, xB_BearerError⟩, sa_BearerError, ex_BearerError, ty_BearerError, kC_BearerError⟩,
      i_BearerError := ii_BearerError,
      t_BearerError := ti_BearerError,
      e_BearerError := ⟨ga_BearerError, gg_BearerError, ex_BearerError, hd_BearerError, hc_BearerError, sn_get, tk_get, mo_BearerError⟩,
      s_BearerError_BearerError := sb_BearerError_BearerError,
      s_BearerError_NotValid := sb_BearerError_NotValid,
      y_BearerError := ty_BearerError,
      l_BearerError := ic_BearerError,
      o_NotValid := ⟨⟨nm_NotValid, q_NotValid, N_NotValid, bs_NotValid, bm_NotValid, sn_NotValid, sub_NotValid, ab_NotValid, col_NotValid, dd_NotValid, m0_NotValid, m1_NotValid, m2_NotValid, m3_NotValid, m5_NotValid, xL_NotValid, xB_NotValid⟩, sa_NotValid, ex_NotValid, ty_NotValid, kC_NotValid⟩,
      i_NotValid := ii_NotValid,
      t_NotValid := ti_NotValid,
      e_NotValid := ⟨ga_NotValid, gg_NotValid, ex_NotValid, hd_NotValid, hc_NotValid, sn_get, tk_get, mo_NotValid⟩,
      s_NotValid_BearerError := sb_NotValid_BearerError,
      s_NotValid_NotValid := sb_NotValid_NotValid,
      y_NotValid := ty_NotValid,
      l_NotValid := ic_NotValid,
      k_UpperSender := ⟨⟨pg_UpperSender, hd_UpperSender, po_UpperSender, sa_UpperSender⟩, ⟨mk_UpperSender, a_UpperSender___init__, i_UpperSender___init__, kc_UpperSender⟩⟩,
      f_UpperSender__bits := nf_UpperSender__bits,
      f_UpperSender__next := nf_UpperSender__next,
      f_UpperSender__packets := nf_UpperSender__packets,
      k_UpperReceiver := ⟨⟨pg_UpperReceiver, hd_UpperReceiver, po_UpperReceiver, sa_UpperReceiver⟩, ⟨mk_UpperReceiver, a_UpperReceiver___init__, i_UpperReceiver___init__, kc_UpperReceiver⟩⟩,
      f_UpperReceiver__bits := nf_UpperReceiver__bits,
      f_UpperReceiver__first := nf_UpperReceiver__first,
      f_UpperReceiver__ahead := nf_UpperReceiver__ahead
    } : Tx P w K mg base))
theorem walk {l : PySem.W.OpenLaw} {q : Program} {loose : List Str} {XP : (Str → Option Value) → Heap → Prop} {YP : World → Heap → Prop} {d : DefRec} {K : Params → PySem.W.Frag} (hn : l.most = some 63) (hdf : d.params.defaults = [])
    (hY : ∀ (w : World) (h : Heap), YP w h → (K w.params).In h)
    (F : ∀ (w : World) (mg : Str → Option Value) (fa : Addr) (h : Heap), (K w.params).In h → h.Ns mainGlobals mg → mg d.name = some (.ref fa) →
      ∃ fd : FuncData, (∀ (s : Shared) (u : Value), BindsTo s fd ⟨[u], []⟩ [("script", u)]) ∧ ∀ base : Heap, (K w.params).In base → base.Ns mainGlobals mg → FnOk l.prog w (K w.params) mg base CX0 7 fa fd ["script"] (ip_law (K w.params))) :
    PySem.W.WalkO q loose XP YP l.row.toRowW d [] (fun f vs => PySem.call f vs) :=
  L2.walk_of (n := 63) (k := 7) (x := "script") (CX := fun _ => CX0) (sp := fun w => ip_law (K w.params)) hn (by decide) hdf ⟨rfl, by decide, by decide⟩ hY F (fun _ _ a ns hl _ hS => op_law ⟨a, ns, rfl, hS, hl, fun _ => rfl⟩) fun _ _ _ _ _ z => z
end My
open PySem PySem.W PyProof.Rows
set_option maxRecDepth 100000 in
set_option maxHeartbeats 0 in
theorem PySem.Challenge.cw_bearerwise_k30_whole_stays_holds : PySem.Challenge.rw_bearerwise_k30_whole_stays.Holds := by
  w_on; o_law; k_head; (case hw => w_witness2)
  k_fill
  refine My.walk (l := PySem.Challenge.rw_bearerwise_k30_whole_stays) rfl rfl (fun w h Y => PySem.W.kIn_of Y) ?F
  case F =>
    intro w mg fa h KX G hmg
    refine' My.all_mk KX G hmg ?z_len ?z_range ?z_int ?z_sum ?z_zip ?z_min ?z_list ?z_sorted ?z_MODULUS ?z_MARK_MASK ?z_TAIL_BYTES ?z_BearerError ?z_NotValid ?z_UpperSender ?z_UpperReceiver ?a_u_wall ?l_u_wall ?c_u_wall ?k_u_wall ?a_window_size ?l_window_size ?c_window_size ?k_window_size ?a_distance ?l_distance ?c_distance ?k_distance ?a_read_short ?l_read_short ?c_read_short ?k_read_short ?a_short_of ?l_short_of ?c_short_of ?k_short_of ?a_window ?l_window ?c_window ?k_window ?a_count_near ?l_count_near ?c_count_near ?k_count_near ?a_BearerError___init__ ?i_BearerError___init__ ?l_BearerError___init__ ?c_BearerError___init__ ?k_BearerError___init__ ?a_u_in_order ?l_u_in_order ?c_u_in_order ?k_u_in_order ?a_UpperSender___init__ ?i_UpperSender___init__ ?l_UpperSender___init__ ?c_UpperSender___init__ ?k_UpperSender___init__ ?a_UpperSender_may_add ?i_UpperSender_may_add ?l_UpperSender_may_add ?c_UpperSender_may_add ?k_UpperSender_may_add ?a_UpperSender_add ?i_UpperSender_add ?l_UpperSender_add ?c_UpperSender_add ?k_UpperSender_add ?a_UpperSender_next_count ?i_UpperSender_next_count ?l_UpperSender_next_count ?c_UpperSender_next_count ?k_UpperSender_next_count ?a_UpperSender_base ?i_UpperSender_base ?l_UpperSender_base ?c_UpperSender_base ?k_UpperSender_base ?a_UpperSender_unconfirmed ?i_UpperSender_unconfirmed ?l_UpperSender_unconfirmed ?c_UpperSender_unconfirmed ?k_UpperSender_unconfirmed ?a_UpperSender_confirm ?i_UpperSender_confirm ?l_UpperSender_confirm ?c_UpperSender_confirm ?k_UpperSender_confirm ?a_UpperSender_take_report ?i_UpperSender_take_report ?l_UpperSender_take_report ?c_UpperSender_take_report ?k_UpperSender_take_report ?a_UpperReceiver___init__ ?i_UpperReceiver___init__ ?l_UpperReceiver___init__ ?c_UpperReceiver___init__ ?k_UpperReceiver___init__ ?a_UpperReceiver_first_missing ?i_UpperReceiver_first_missing ?l_UpperReceiver_first_missing ?c_UpperReceiver_first_missing ?k_UpperReceiver_first_missing ?a_UpperReceiver_take ?i_UpperReceiver_take ?l_UpperReceiver_take ?c_UpperReceiver_take ?k_UpperReceiver_take ?a_UpperReceiver_take_count ?i_UpperReceiver_take_count ?l_UpperReceiver_take_count ?c_UpperReceiver_take_count ?k_UpperReceiver_take_count ?a_UpperReceiver_report ?i_UpperReceiver_report ?l_UpperReceiver_report ?c_UpperReceiver_report ?k_UpperReceiver_report ?a_UpperReceiver_held ?i_UpperReceiver_held ?l_UpperReceiver_held ?c_UpperReceiver_held ?k_UpperReceiver_held ?a_row_of ?l_row_of ?c_row_of ?k_row_of ?a_mark_of ?l_mark_of ?c_mark_of ?k_mark_of ?a_u_with_row ?l_u_with_row ?c_u_with_row ?k_u_with_row ?a_cover ?l_cover ?c_cover ?k_cover ?a_uncover ?l_uncover ?c_uncover ?k_uncover ?a_u_law_cell ?l_u_law_cell ?c_u_law_cell ?k_u_law_cell ?a_u_law_digits ?l_u_law_digits ?c_u_law_digits ?k_u_law_digits ?a_u_law_many ?l_u_law_many ?c_u_law_many ?k_u_law_many ?a_u_law_come ?l_u_law_come ?c_u_law_come ?k_u_law_come ?a_u_law_pieces ?l_u_law_pieces ?c_u_law_pieces ?k_u_law_pieces ?a_u_law_stay ?l_u_law_stay ?c_u_law_stay ?k_u_law_stay ?a_law ?l_law ?c_law ?k_law ?xL_BearerError ?xB_BearerError ?sa_BearerError ?ex_BearerError ?ty_BearerError ?kC_BearerError ?ii_BearerError ?ti_BearerError ?ga_BearerError ?gg_BearerError ?hd_BearerError ?hc_BearerError ?mo_BearerError ?ic_BearerError ?sb_BearerError_BearerError ?sb_BearerError_NotValid ?xL_NotValid ?xB_NotValid ?sa_NotValid ?ex_NotValid ?ty_NotValid ?kC_NotValid ?ii_NotValid ?ti_NotValid ?ga_NotValid ?gg_NotValid ?hd_NotValid ?hc_NotValid ?mo_NotValid ?ic_NotValid ?sb_NotValid_BearerError ?sb_NotValid_NotValid ?pg_UpperSender ?hd_UpperSender ?po_UpperSender ?sa_UpperSender ?mk_UpperSender ?kc_UpperSender ?nf_UpperSender__bits ?nf_UpperSender__next ?nf_UpperSender__packets ?pg_UpperReceiver ?hd_UpperReceiver ?po_UpperReceiver ?sa_UpperReceiver ?mk_UpperReceiver ?kc_UpperReceiver ?nf_UpperReceiver__bits ?nf_UpperReceiver__first ?nf_UpperReceiver__ahead ?sn_get ?tk_get
    (case z_len => k_is)
    (case z_range => k_is)
    (case z_int => k_is)
    (case z_sum => k_is)
    (case z_zip => k_is)
    (case z_min => k_is)
    (case z_list => k_is)
    (case z_sorted => k_is)
    (case z_MODULUS => k_is)
    (case z_MARK_MASK => k_is)
    (case z_TAIL_BYTES => k_is)
    (case z_BearerError => k_is)
    (case z_NotValid => k_is)
    (case z_UpperSender => k_is)
    (case z_UpperReceiver => k_is)
    (case a_u_wall => k_is)
    (case l_u_wall => k_is)
    (case c_u_wall => k_is)
    (case k_u_wall => k_is)
    (case a_window_size => k_is)
    (case l_window_size => k_is)
    (case c_window_size => k_is)
    (case k_window_size => k_is)
    (case a_distance => k_is)
    (case l_distance => k_is)
    (case c_distance => k_is)
    (case k_distance => k_is)
    (case a_read_short => k_is)
    (case l_read_short => k_is)
    (case c_read_short => k_is)
    (case k_read_short => k_is)
    (case a_short_of => k_is)
    (case l_short_of => k_is)
    (case c_short_of => k_is)
    (case k_short_of => k_is)
    (case a_window => k_is)
    (case l_window => k_is)
    (case c_window => k_is)
    (case k_window => k_is)
    (case a_count_near => k_is)
    (case l_count_near => k_is)
    (case c_count_near => k_is)
    (case k_count_near => k_is)
    (case a_BearerError___init__ => k_is)
    (case i_BearerError___init__ => k_is)
    (case l_BearerError___init__ => k_is)
    (case c_BearerError___init__ => k_is)
    (case k_BearerError___init__ => k_is)
    (case a_u_in_order => k_is)
    (case l_u_in_order => k_is)
    (case c_u_in_order => k_is)
    (case k_u_in_order => k_is)
    (case a_UpperSender___init__ => k_is)
    (case i_UpperSender___init__ => k_is)
    (case l_UpperSender___init__ => k_is)
    (case c_UpperSender___init__ => k_is)
    (case k_UpperSender___init__ => k_is)
    (case a_UpperSender_may_add => k_is)
    (case i_UpperSender_may_add => k_is)
    (case l_UpperSender_may_add => k_is)
    (case c_UpperSender_may_add => k_is)
    (case k_UpperSender_may_add => k_is)
    (case a_UpperSender_add => k_is)
    (case i_UpperSender_add => k_is)
    (case l_UpperSender_add => k_is)
    (case c_UpperSender_add => k_is)
    (case k_UpperSender_add => k_is)
    (case a_UpperSender_next_count => k_is)
    (case i_UpperSender_next_count => k_is)
    (case l_UpperSender_next_count => k_is)
    (case c_UpperSender_next_count => k_is)
    (case k_UpperSender_next_count => k_is)
    (case a_UpperSender_base => k_is)
    (case i_UpperSender_base => k_is)
    (case l_UpperSender_base => k_is)
    (case c_UpperSender_base => k_is)
    (case k_UpperSender_base => k_is)
    (case a_UpperSender_unconfirmed => k_is)
    (case i_UpperSender_unconfirmed => k_is)
    (case l_UpperSender_unconfirmed => k_is)
    (case c_UpperSender_unconfirmed => k_is)
    (case k_UpperSender_unconfirmed => k_is)
    (case a_UpperSender_confirm => k_is)
    (case i_UpperSender_confirm => k_is)
    (case l_UpperSender_confirm => k_is)
    (case c_UpperSender_confirm => k_is)
    (case k_UpperSender_confirm => k_is)
    (case a_UpperSender_take_report => k_is)
    (case i_UpperSender_take_report => k_is)
    (case l_UpperSender_take_report => k_is)
    (case c_UpperSender_take_report => k_is)
    (case k_UpperSender_take_report => k_is)
    (case a_UpperReceiver___init__ => k_is)
    (case i_UpperReceiver___init__ => k_is)
    (case l_UpperReceiver___init__ => k_is)
    (case c_UpperReceiver___init__ => k_is)
    (case k_UpperReceiver___init__ => k_is)
    (case a_UpperReceiver_first_missing => k_is)
    (case i_UpperReceiver_first_missing => k_is)
    (case l_UpperReceiver_first_missing => k_is)
    (case c_UpperReceiver_first_missing => k_is)
    (case k_UpperReceiver_first_missing => k_is)
    (case a_UpperReceiver_take => k_is)
    (case i_UpperReceiver_take => k_is)
    (case l_UpperReceiver_take => k_is)
    (case c_UpperReceiver_take => k_is)
    (case k_UpperReceiver_take => k_is)
    (case a_UpperReceiver_take_count => k_is)
    (case i_UpperReceiver_take_count => k_is)
    (case l_UpperReceiver_take_count => k_is)
    (case c_UpperReceiver_take_count => k_is)
    (case k_UpperReceiver_take_count => k_is)
    (case a_UpperReceiver_report => k_is)
    (case i_UpperReceiver_report => k_is)
    (case l_UpperReceiver_report => k_is)
    (case c_UpperReceiver_report => k_is)
    (case k_UpperReceiver_report => k_is)
    (case a_UpperReceiver_held => k_is)
    (case i_UpperReceiver_held => k_is)
    (case l_UpperReceiver_held => k_is)
    (case c_UpperReceiver_held => k_is)
    (case k_UpperReceiver_held => k_is)
    (case a_row_of => k_is)
    (case l_row_of => k_is)
    (case c_row_of => k_is)
    (case k_row_of => k_is)
    (case a_mark_of => k_is)
    (case l_mark_of => k_is)
    (case c_mark_of => k_is)
    (case k_mark_of => k_is)
    (case a_u_with_row => k_is)
    (case l_u_with_row => k_is)
    (case c_u_with_row => k_is)
    (case k_u_with_row => k_is)
    (case a_cover => k_is)
    (case l_cover => k_is)
    (case c_cover => k_is)
    (case k_cover => k_is)
    (case a_uncover => k_is)
    (case l_uncover => k_is)
    (case c_uncover => k_is)
    (case k_uncover => k_is)
    (case a_u_law_cell => k_is)
    (case l_u_law_cell => k_is)
    (case c_u_law_cell => k_is)
    (case k_u_law_cell => k_is)
    (case a_u_law_digits => k_is)
    (case l_u_law_digits => k_is)
    (case c_u_law_digits => k_is)
    (case k_u_law_digits => k_is)
    (case a_u_law_many => k_is)
    (case l_u_law_many => k_is)
    (case c_u_law_many => k_is)
    (case k_u_law_many => k_is)
    (case a_u_law_come => k_is)
    (case l_u_law_come => k_is)
    (case c_u_law_come => k_is)
    (case k_u_law_come => k_is)
    (case a_u_law_pieces => k_is)
    (case l_u_law_pieces => k_is)
    (case c_u_law_pieces => k_is)
    (case k_u_law_pieces => k_is)
    (case a_u_law_stay => k_is)
    (case l_u_law_stay => k_is)
    (case c_u_law_stay => k_is)
    (case k_u_law_stay => k_is)
    (case a_law => k_is)
    (case l_law => k_is)
    (case c_law => k_is)
    (case k_law => k_is)
    (case xL_BearerError => k_is)
    (case xB_BearerError => decide +kernel)
    (case sa_BearerError => k_is)
    (case ex_BearerError => k_is)
    (case ty_BearerError => k_is)
    (case kC_BearerError => k_is)
    (case ii_BearerError => k_is)
    (case ti_BearerError => k_is)
    (case ga_BearerError => k_is)
    (case gg_BearerError => k_is)
    (case hd_BearerError => k_is)
    (case hc_BearerError => k_is)
    (case mo_BearerError => k_is)
    (case ic_BearerError => k_is)
    (case sb_BearerError_BearerError => first | rfl | k_is)
    (case sb_BearerError_NotValid => first | rfl | k_is)
    (case xL_NotValid => k_is)
    (case xB_NotValid => decide +kernel)
    (case sa_NotValid => k_is)
    (case ex_NotValid => k_is)
    (case ty_NotValid => k_is)
    (case kC_NotValid => k_is)
    (case ii_NotValid => k_is)
    (case ti_NotValid => k_is)
    (case ga_NotValid => k_is)
    (case gg_NotValid => k_is)
    (case hd_NotValid => k_is)
    (case hc_NotValid => k_is)
    (case mo_NotValid => k_is)
    (case ic_NotValid => k_is)
    (case sb_NotValid_BearerError => first | rfl | k_is)
    (case sb_NotValid_NotValid => first | rfl | k_is)
    (case pg_UpperSender => k_is)
    (case hd_UpperSender => k_is)
    (case po_UpperSender => k_is)
    (case sa_UpperSender => k_is)
    (case mk_UpperSender => k_is)
    (case kc_UpperSender => k_is)
    (case nf_UpperSender__bits => k_is)
    (case nf_UpperSender__next => k_is)
    (case nf_UpperSender__packets => k_is)
    (case pg_UpperReceiver => k_is)
    (case hd_UpperReceiver => k_is)
    (case po_UpperReceiver => k_is)
    (case sa_UpperReceiver => k_is)
    (case mk_UpperReceiver => k_is)
    (case kc_UpperReceiver => k_is)
    (case nf_UpperReceiver__bits => k_is)
    (case nf_UpperReceiver__first => k_is)
    (case nf_UpperReceiver__ahead => k_is)
    (case sn_get => k_is)
    (case tk_get => k_is)

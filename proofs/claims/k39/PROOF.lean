import PyProof.Rows.All
import Wide.All
import OpenK.AllK
import Wide.FinOn
import HandS.ForMost
import HandS.ForExc
import HandS.IsInst
import HandS.ExcIs
import HandS.ExcInit
import HandS.Wide
import HandS.WideBits
import HandS.Zip
import HandS.Flow
import HandS.Flt
import HandS.Walk
import HandS.More
import HandS.Deep
import HandS.SetKeys
import HandS.SortKw
import HandS.Conv
import KE.KDictWalk
import HandS.Style
import HandS.SortInts
import HandS.DictComp
import HandS.SortRule
import HandS.Iter
import PySem.Challenge.RW_bearerwise_k39_bills
set_option Elab.async false
set_option linter.all false
set_option maxRecDepth 100000
set_option maxHeartbeats 4000000
namespace My
open PySem L2

/-! ### a def as the top has left it -/
structure DefAt (K : PySem.W.Frag) (mg : Str → Option Value) (x q : Str) (st : Stmt) (ps : List Str) (f : Addr) (fd : FuncData) : Prop where
  F : Fun K x q st f fd
  b : Binds K fd ps []
  m : mg x = some (.ref f)
structure MethAt (K : PySem.W.Frag) (C : Addr) (x q : Str) (st : Stmt) (ps : List Str) (f : Addr) (fd : FuncData) : Prop where
  F : Fun K x q st f fd
  b : Binds K fd ps []
  me : Meth K C x f

structure DefAt0 (K : PySem.W.Frag) (x q : Str) (st : Stmt) (ps : List Str) (f : Addr) (fd : FuncData) : Prop where
  F : Fun K x q st f fd
  b : Binds K fd ps []
structure ClsAt (K : PySem.W.Frag) (C f : Addr) : Prop where
  cl : Cls K C
  mk' : Mk K C f

/-! ### heaps -/
theorem same_upd {H : Hp} {p : Addr} {o : HO} (h : H p = none) : Same H (upd H p o) := fun b x e => by
  rw [upd_ne (ne_of_none e h)]
  exact e
theorem same_none {H H' : Hp} {p : Addr} (s : Same H H') (h : H' p = none) : H p = none := by
  cases e : H p with
  | none => rfl
  | some o =>
    rw [s _ _ e] at h
    cases h
/-- an object that H does not know may change -/
theorem same_mut {H H' : Hp} {p : Addr} {o : HO} (e : Same H H') (h : H p = none) : Same H (upd H' p o) := fun b x hb => by
  rw [upd_ne (ne_of_none hb h)]
  exact e b x hb
theorem sq_of {K : PySem.W.Frag} {H : Hp} {a : Addr} {xs : List V} (h : H a = some (.lst xs)) : SqL K H a xs := Or.inl (Or.inl h)
theorem st_of {K : PySem.W.Frag} {H : Hp} {a : Addr} {xs : List V} (h : H a = some (.tup xs)) : SqT K H a xs := Or.inl (Or.inl h)
theorem Same.sqt {K : PySem.W.Frag} {H H' : Hp} {a : Addr} {xs : List V} (e : Same H H') (h : SqT K H a xs) : SqT K H' a xs := by
  rcases h with (h | ⟨o, h⟩) | h
  · exact .inl (.inl (e _ _ h))
  · exact .inl (.inr ⟨o, e _ _ h⟩)
  · exact .inr h
theorem hp_step {H H' : Hp} {a : Addr} {o : HO} (h : H a = some o) (s : Same H H') : H' a = some o := s _ _ h
theorem sq_step {K : PySem.W.Frag} {H H' : Hp} {a : Addr} {xs : List V} (h : SqL K H a xs) (s : Same H H') : SqL K H' a xs := s.seq h
theorem sqt_step {K : PySem.W.Frag} {H H' : Hp} {a : Addr} {xs : List V} (h : SqT K H a xs) (s : Same H H') : SqT K H' a xs := Same.sqt s h
theorem sz {n : Nat} (h : n ≤ 1000000) : n ≤ sizeLine := Nat.le_trans h (by rw [sizeLine_eq]; decide)
theorem szl {n : Nat} (h : n < 1000000) : n < sizeLine := Nat.lt_of_lt_of_le h (by rw [sizeLine_eq]; decide)

/-- the promises' shapes: a value and the heap as it was; a value; a new list -/
def RV (v : V) (H : Hp) (Q : VK) : Prop := ∀ H', Same H H' → Q v H'
def RL (xs : List V) (H : Hp) (Q : VK) : Prop := ∀ p H', H p = none → Same H H' → H' p = some (.lst xs) → Q (.ref p) H'
def RT (xs : List V) (H : Hp) (Q : VK) : Prop := ∀ p H', H p = none → Same H H' → H' p = some (.tup xs) → Q (.ref p) H'

/-! ### stops for the walk: a proposition that no tuple opens -/
inductive Stop (p : Prop) : Prop where
  | a (h : p) : Stop p
  | b (h : p) : Stop p
theorem Stop.un {p : Prop} (h : Stop p) : p := by cases h <;> assumption

/-! ### an exception of an own class whose __init__ takes nothing and stores nothing: X() -/
def spInit0 : Sp := fun vs H Q _ => ∃ a, vs = [.ref a] ∧ Q .non H
structure PlainExc (P : Program) (w : World) (K : PySem.W.Frag) (mg : Str → Option Value) (base : Heap) (x : Str) (C fI : Addr) (fdI : FuncData) : Prop where
  T : OexC K C
  iC : PySem.W.findIn K (.ref C) "__init__" = some (some (.ref fI))
  tI : PySem.W.typeIn K (.ref fI) = some (.type "function")
  F1 : FnOk P w K mg base CX0 1 fI fdI ["self"] spInit0
  bI : Binds K fdI ["self"] []
  m : mg x = some (.ref C)
open PySem.Spec PyProof.Rows in
theorem mk_endN {X : Cx} {pins : List (Addr × Obj)} {σ : L2.St} {H1 : Hp} {Q : XK} {hp hp2 h2 : Heap} {g1 g2 : Array GenState} {d1 d2 : Drawn} {t1 t2 : Nat} {os1 os2 : OsState} {a C : Addr} (T : Raises X (.ref C)) (I1 : Inv X pins σ H1 ⟨hp, g1, d1, t1, os1⟩)
    (ha : hp.objs.size ≤ a) (k : ∀ b o, hp.get? b = some o → hp2.get? b = some o) (un : Un (frs X.stack) [] (upd H1 a (exo a C none)) (upd H1 a (exo a C none)) hp2 h2) (hok : HOk X.prog X.w (upd H1 a (exo a C none)) h2) (ho : os2 = os1) (hb : AllBare g2)
    (q : Q (.ref C) none H1) : MkP X pins σ Q (.ref a) ⟨h2, g2, d2, t2, os2⟩ := by
  obtain ⟨t0, hoe⟩ := exo_at hok upd_same
  have hn : H1 a = none := I1.hok.fresh ha
  obtain ⟨G, g1', g2'⟩ := restrict h2 fun b => decide (b ≠ a)
  have gk : ∀ b, b ≠ a → G.get? b = h2.get? b := fun b hb => g1' b (decide_eq_true hb)
  have ge : G.get? a = none := g2' a (by simp)
  have nha : ∀ {b : Addr} {o : Obj}, hp.get? b = some o → b ≠ a := fun {b o} z => Nat.ne_of_lt (Nat.lt_of_lt_of_le (Heap.lt_size z) ha)
  have up : ∀ {b : Addr}, b ≠ a → H1 b = none → upd H1 a (exo a C none) b = none := fun {b} hb n => by rw [upd_ne hb]; exact n
  have U : Un (frs X.stack) [] H1 H1 hp G := {
    keep := fun b o z n hf hx => by
      rw [gk b (nha z)]
      exact un.keep b o (k b o z) (up (nha z) n) hf hx
    slot := fun b o z n hf hx => by
      rw [gk b (nha z)]
      exact un.slot b o (k b o z) (up (nha z) n) hf hx
    free := fun b o z n hx => n
    there := fun b o z hx => by
      rw [gk b (nha z)]
      exact un.there b o (k b o z) hx
    tups := fun b xs z => z
    frzs := fun b o v z => z
    tbls := fun b ps z => ⟨#[], by rw [z]; simp⟩ }
  have hok3 : HOk X.prog X.w H1 G := fun b o z => by
    have hba : b ≠ a := fun e => by
      rw [e, hn] at z
      cases z
    have z2 : upd H1 a (exo a C none) b = some o := by rw [upd_ne hba]; exact z
    have noa : ∀ {c : Addr} {u : HO}, H1 c = some u → c ≠ a := fun {c u} hc e => by
      rw [e, hn] at hc
      cases hc
    exact (hok b o z2).stay (fun c v hc y => by
        have hca : c ≠ a := by
          rcases hc with hc | hc
          · rw [hc]
            exact hba
          · exact fun e => by
              rw [e, upd_same] at hc
              exact exo_own (Option.some.inj hc)
        rw [gk c hca]
        exact y)
      (fun c hc => by
        by_cases e : c = a
        · rw [e, upd_same] at hc
          exact absurd (Option.some.inj hc) exo_own
        · rw [upd_ne e] at hc
          exact hc)
      (fun c xs hc => by
        by_cases e : c = a
        · rw [e, upd_same] at hc
          exact absurd (Option.some.inj hc) exo_tup
        · rw [upd_ne e] at hc
          exact hc)
  have J : Inv X pins σ H1 ⟨G, g2, d2, t2, os2⟩ := I1.call' (ch := []) ho U hok3 hb (fun b z => absurd z (by simp))
  refine ⟨a, _, _, ⟨G, g2, d2, t2, os2⟩, _, .ref C, none, rfl, J, fun b o z => ?_, ge, hoe, ⟨rfl, rfl⟩, rfl, rfl, hn, rfl, hb, T, q⟩
  by_cases hba : b = a
  · rw [hba, ge] at z
    cases z
  · exact (gk b hba).symm.trans z
open PySem.Spec PyProof.Rows in
theorem pmk_plain {X : Cx} {x : Str} {C fI : Addr} {fdI : FuncData} {p pos : Pos} (T : PlainExc X.prog X.w X.K X.mg X.base x C fI fdI) (hr : Room 2 X.A) (hg : Gl X x) (hdb : (x == ("__debug__" : Str)) = false := by decide) :
    PMk X (.Call (.Name x p) [] [] pos) (fun _ H Q => Q (.ref C) none H) := by
  intro pins s σ H Q I h
  obtain ⟨nm, q, N, bs, bm, sn, sub, ab, col, dd, k0, k1, k2, k3, k5, hC, hbm⟩ := T.T.cls
  refine wpAny_Call_Name_kw (ld_glob I hg T.m ?_ hdb)
  refine PySem.W.callWith_K0 I.kIn T.T.kC ?_
  show wpAny _ _ (call (.ref C) []) _ _ _
  obtain ⟨hp, g, dr, tk, os⟩ := s
  have hsz : hp.objs.size ≤ hp.objs.size + 1 := Nat.le_succ _
  have hn : H (hp.objs.size + 1) = none := I.hok.fresh hsz
  have kk : ∀ b o, hp.get? b = some o → ((hp.push (PySem.W.kdv_tup [])).push (PySem.HandSPX.excO C hp.objs.size)).get? b = some o := fun b o e => Heap.get?_push_of_some _ (Heap.get?_push_of_some _ e)
  have hget : ((hp.push (PySem.W.kdv_tup [])).push (PySem.HandSPX.excO C hp.objs.size)).get? (hp.objs.size + 1) = some (PySem.HandSPX.excO C hp.objs.size) := by heap_get
  have I2 : Inv X pins σ (upd H (hp.objs.size + 1) (exo (hp.objs.size + 1) C none)) ⟨(hp.push (PySem.W.kdv_tup [])).push (PySem.HandSPX.excO C hp.objs.size), g, dr, tk, os⟩ :=
    I.laid (t' := tk) (a := hp.objs.size + 1) (o := exo (hp.objs.size + 1) C none) (h' := (hp.push (PySem.W.kdv_tup [])).push (PySem.HandSPX.excO C hp.objs.size)) kk hsz (exo_ok hget)
  have r2 : Vals [V.ref (hp.objs.size + 1)] [Value.ref (hp.objs.size + 1)] := .cons rfl .nil
  have hq : spInit0 [V.ref (hp.objs.size + 1)] (upd H (hp.objs.size + 1) (exo (hp.objs.size + 1) C none)) (fun v H2 => v = .non ∧ H2 = upd H (hp.objs.size + 1) (exo (hp.objs.size + 1) C none)) (fun _ _ _ => False) := ⟨_, rfl, rfl, rfl⟩
  refine wpAny_call (PySem.HandSPX.call_own PySem.F.excBase_ValueError (fun Y => PySem.HandSPX.refsVE_contains Y bm hbm) (I.kIn _ _ hC) (PySem.W.looks_findIn I.kIn T.iC) (fun self => PySem.W.bind_fn I.kIn self T.tI) (Nat.zero_le _)
    (codeAny_mono (T.F1.run _ X.stack _ _ ⟨[Value.ref (hp.objs.size + 1)], []⟩ [Value.ref (hp.objs.size + 1)] _ _ (fun _ _ _ => False) (hr.make C [] []) (I2.env0.make C [] []) (T.bI _ [Value.ref (hp.objs.size + 1)] I2.kIn rfl) r2 hq) fun r s' hq' => ?_))
  cases r with
  | error er => exact hq'.elim
  | ok fl =>
    cases fl with
    | ret u =>
      obtain ⟨v, H2, os2, bare2, un2, hok2, rv, ev, eH⟩ := hq'
      subst ev
      subst eH
      obtain ⟨h2, g2, d2, t2, os'⟩ := s'
      exact ⟨rv, mk_endN (raises_own T.T.exC T.T.tyC) I hsz kk un2 hok2 os2 bare2 h⟩
    | next => exact False.elim hq'
    | brk => exact False.elim hq'
    | cont => exact False.elim hq'

theorem ite_t {c A B : Prop} [Decidable c] (hc : c) (h : A) : if decide c = true then A else B := by
  rw [decide_eq_true hc]
  exact iteT h
theorem ite_f {c A B : Prop} [Decidable c] (hc : ¬ c) (h : B) : if decide c = true then A else B := by
  rw [decide_eq_false hc]
  exact iteF h
theorem ite_nt {c A B : Prop} [Decidable c] (hc : ¬ c) (h : A) : if (!decide c) = true then A else B := by
  rw [decide_eq_false hc]
  exact iteT h
theorem ite_nf {c A B : Prop} [Decidable c] (hc : c) (h : B) : if (!decide c) = true then A else B := by
  rw [decide_eq_true hc]
  exact iteF h
theorem ite_by {c A B : Prop} [Decidable c] (h1 : c → A) (h2 : ¬ c → B) : if decide c = true then A else B := by
  by_cases h : c
  · exact ite_t h (h1 h)
  · exact ite_f h (h2 h)
theorem ite_nby {c A B : Prop} [Decidable c] (h1 : ¬ c → A) (h2 : c → B) : if (!decide c) = true then A else B := by
  by_cases h : c
  · exact ite_nf h (h2 h)
  · exact ite_nt h (h1 h)
/-- an item of the ints -/
theorem at_int {ns : List Int} {k : Int} (h0 : 0 ≤ k) (h1 : k < (ns.length : Int)) : atI (ns.map V.int) k = some (V.int (ns.getD k.toNat 0)) := by
  refine at_of (j := k.toNat) (by omega) ?_
  have h2 : k.toNat < ns.length := by omega
  rw [List.getElem?_map, List.getElem?_eq_getElem h2, List.getD_eq_getElem?_getD, List.getElem?_eq_getElem h2]
  rfl
theorem two_pos1 (k : Nat) : (0 : Int) < 1 * 2 ^ k := by
  rw [Int.one_mul]
  exact Int.pow_pos (by decide)
theorem q_int {Q : VK} {x y : Int} {H : Hp} (q : Q (.int x) H) (e : x = y) : Q (.int y) H := e ▸ q
theorem q_bl {Q : VK} {x y : Bool} {H : Hp} (q : Q (.bl x) H) (e : x = y) : Q (.bl y) H := e ▸ q

/-! ### readings that stop the walk where a new object comes: told by what holds of the new heap -/
/-- the closure of a reading: some wish that it keeps, and that is enough -/
def cTE (t : TE) : TE := fun σ H Q => ∃ R : VK, t σ H R ∧ ∀ v H', R v H' → Q v H'
def cTA (t : TA) : TA := fun σ H Q => ∃ R : List V → Hp → Prop, t σ H R ∧ ∀ v H', R v H' → Q v H'
def cTT (t : TT) : TT := fun σ H Q => ∃ R : Bool → Hp → Prop, t σ H R ∧ ∀ v H', R v H' → Q v H'
section
variable {X : Cx} {e : Expr} {es : List Expr} {te : TE} {ta : TA} {tt : TT} {pos : Pos}
theorem pe_c (h : PE X e te) : PE X e (cTE te) := ⟨fun pins s σ H Q I ⟨R, h1, h2⟩ => thn (h.run pins s σ H R I h1) fun u s1 ⟨v, H1, I1, r, q⟩ => ⟨v, H1, I1, r, h2 _ _ q⟩⟩
theorem pa_c (h : PA X es ta) : PA X es (cTA ta) := ⟨fun pos pins s σ H Q I ⟨R, h1, h2⟩ => thn (h.run pos pins s σ H R I h1) fun u s1 ⟨v, H1, I1, r, q⟩ => ⟨v, H1, I1, r, h2 _ _ q⟩⟩
theorem pt_c (h : PT X e tt) : PT X e (cTT tt) := ⟨fun pins s σ H Q I ⟨R, h1, h2⟩ => thn (h.run pins s σ H R I h1) fun u s1 ⟨H1, I1, q⟩ => ⟨H1, I1, h2 _ _ q⟩⟩
theorem pe_weak {te' : TE} (h : PE X e te) (w : ∀ σ H Q, te' σ H Q → te σ H Q) : PE X e te' := ⟨fun pins s σ H Q I q => h.run pins s σ H Q I (w σ H Q q)⟩
theorem ps_weak {st : Stmt} {t t' : TS} (h : PS X st t) (w : ∀ D σ H, t' D σ H → t D σ H) : PS X st t' := ⟨fun pins s σ H D I q => h.run pins s σ H D I (w D σ H q)⟩
end
/-- what is wanted of a new object -/
def NewO (o : HO) (H : Hp) (Q : VK) : Prop := ∀ p H', H p = none → Same H H' → H' p = some o → Q (.ref p) H'
theorem NewO.go {o : HO} {H : Hp} {Q : VK} (h : NewO o H Q) : ∀ p, H p = none → Q (.ref p) (upd H p o) := fun p hp => h p _ hp (same_upd hp) upd_same
@[irreducible] def mTup (t : TA) : TE := fun σ H Q => t σ H fun xs H1 => xs.length ≤ 1000 ∧ NewO (.tup xs) H1 Q
@[irreducible] def mLst (t : TA) : TE := fun σ H Q => t σ H fun xs H1 => xs.length ≤ 1000 ∧ NewO (.lst xs) H1 Q
theorem rd_tup {t : TA} {σ : L2.St} {H : Hp} {Q : VK} (h : t σ H fun xs H1 => xs.length ≤ 1000 ∧ NewO (.tup xs) H1 Q) : mTup t σ H Q := by
  unfold mTup
  exact h
theorem rd_lst {t : TA} {σ : L2.St} {H : Hp} {Q : VK} (h : t σ H fun xs H1 => xs.length ≤ 1000 ∧ NewO (.lst xs) H1 Q) : mLst t σ H Q := by
  unfold mLst
  exact h
@[irreducible] def mCat (K : PySem.W.Frag) : R2 := fun x y H Q => ∃ l b xs zs, x = .ref l ∧ y = .ref b ∧ H l = some (.lst xs) ∧ H b = some (.lst zs) ∧ xs.length + zs.length ≤ 1000000 ∧ NewO (.lst (xs ++ zs)) H Q
theorem rd_cat {K : PySem.W.Frag} {l b : Addr} {xs zs : List V} {H : Hp} {Q : VK} (h1 : H l = some (.lst xs)) (h2 : H b = some (.lst zs)) (hz : xs.length + zs.length ≤ 1000000) (h : NewO (.lst (xs ++ zs)) H Q) : mCat K (.ref l) (.ref b) H Q := by
  unfold mCat
  exact ⟨l, b, xs, zs, rfl, rfl, h1, h2, hz, h⟩
@[irreducible] def mRep : R2 := fun x y H Q => ∃ l k xs, x = .ref l ∧ y = .int k ∧ H l = some (.lst xs) ∧ 0 ≤ k ∧ k ≤ 100000 ∧ xs.length * k.toNat ≤ 1000000 ∧ NewO (.lst (List.replicate k.toNat xs).flatten) H Q
@[irreducible] def mSlL (K : PySem.W.Frag) : V → Option Int → Option Int → Hp → VK → Prop := fun x lo hi H Q => ∃ a xs, x = .ref a ∧ SqL K H a xs ∧ NewO (.lst (cutV xs lo hi)) H Q
theorem rd_sl {K : PySem.W.Frag} {a : Addr} {xs : List V} {lo hi : Option Int} {H : Hp} {Q : VK} (h1 : SqL K H a xs) (h : NewO (.lst (cutV xs lo hi)) H Q) : mSlL K (.ref a) lo hi H Q := by
  unfold mSlL
  exact ⟨a, xs, rfl, h1, h⟩
@[irreducible] def mListOf (K : PySem.W.Frag) : List V → Hp → VK → Prop := fun xs H Q => ∃ p ys, xs = [.ref p] ∧ (SqL K H p ys ∨ SqT K H p ys) ∧ NewO (.lst ys) H Q
theorem rd_list {K : PySem.W.Frag} {a : Addr} {xs : List V} {H : Hp} {Q : VK} (h1 : SqL K H a xs) (h : NewO (.lst xs) H Q) : mListOf K [.ref a] H Q := by
  unfold mListOf
  exact ⟨a, xs, rfl, .inl h1, h⟩
/-- the elements of a comprehension, one by one: what each gives, the heap grown at most -/
def Elt (te : TE) (σ : L2.St) (H : Hp) (y : V) : Prop := ∀ H', Same H H' → te σ H' fun v H'' => v = y ∧ Same H' H''
@[irreducible] def mLcR1 (ta : TA) (j : Nat) (te : TE) (vs : List Nat) : TE := fun σ H Q => ta σ H fun ws H1 => ∃ (n : Int) (f : Nat → V), ws = [.int n] ∧ (-100000 ≤ n ∧ n ≤ 100000) ∧ (∀ i, i < n.toNat → Elt te ((wipe σ vs).set j (some (.int (i : Nat)))) H1 (f i)) ∧ NewO (.lst ((List.range n.toNat).map f)) H1 Q
theorem rd_lcR1 {ta : TA} {j : Nat} {te : TE} {vs : List Nat} {σ : L2.St} {H : Hp} {Q : VK} (h : ta σ H fun ws H1 => ∃ (n : Int) (f : Nat → V), ws = [.int n] ∧ (-100000 ≤ n ∧ n ≤ 100000) ∧ (∀ i, i < n.toNat → Elt te ((wipe σ vs).set j (some (.int (i : Nat)))) H1 (f i)) ∧ NewO (.lst ((List.range n.toNat).map f)) H1 Q) : mLcR1 ta j te vs σ H Q := by
  unfold mLcR1
  exact h
@[irreducible] def mLcL (K : PySem.W.Frag) (tl : TE) (j : Nat) (te : TE) (vs : List Nat) : TE := fun σ H Q => tl σ H fun x H1 => ∃ (a : Addr) (xs : List V) (f : V → V), x = .ref a ∧ SqL K H1 a xs ∧ xs.length ≤ 100000 ∧ (∀ y, y ∈ xs → Elt te ((wipe σ vs).set j (some y)) H1 (f y)) ∧ NewO (.lst (xs.map f)) H1 Q
theorem rd_lcL {K : PySem.W.Frag} {tl : TE} {j : Nat} {te : TE} {vs : List Nat} {σ : L2.St} {H : Hp} {Q : VK} (h : tl σ H fun x H1 => ∃ (a : Addr) (xs : List V) (f : V → V), x = .ref a ∧ SqL K H1 a xs ∧ xs.length ≤ 100000 ∧ (∀ y, y ∈ xs → Elt te ((wipe σ vs).set j (some y)) H1 (f y)) ∧ NewO (.lst (xs.map f)) H1 Q) : mLcL K tl j te vs σ H Q := by
  unfold mLcL
  exact h
theorem wipe_set {σ : L2.St} {vs : List Nat} {j : Nat} {x : Option V} (hj : vs = [j]) : wipe ((wipe σ vs).set j x) vs = wipe σ vs := by
  subst hj
  show ((σ.set j none).set j x).set j none = σ.set j none
  rw [List.set_set, List.set_set]
section
variable {X : Cx} {e : Expr} {es : List Expr} {te : TE} {t ta : TA} {tt : TT} {pos : Pos}
theorem pe_tupM {x1} (h : PA X es t) : PE X (.Tuple es x1 pos) (mTup t) := pe_weak (pe_tup (pa_c h)) fun σ H Q q => by
  unfold mTup at q
  exact ⟨_, q, fun xs H1 r => ⟨sz (Nat.le_trans r.1 (by decide)), r.2.go⟩⟩
theorem pe_lstM (h : PA X es t) : PE X (.List es pos) (mLst t) := pe_weak (pe_lst (pa_c h)) fun σ H Q q => by
  unfold mLst at q
  exact ⟨_, q, fun xs H1 r => ⟨sz (Nat.le_trans r.1 (by decide)), r.2.go⟩⟩
theorem op_catM : OpR X (binaryOp .Add) (mCat X.K) := fun pins s σ H x y v u Q I rx ry q => op_cat pins s σ H x y v u Q I rx ry (by
  unfold mCat at q
  obtain ⟨l, b, xs, zs, e1, e2, h1, h2, hz, h⟩ := q
  exact ⟨l, b, xs, zs, e1, e2, h1, h2, sz hz, h.go⟩)
theorem sl_listM : SlR X (mSlL X.K) := fun pins s σ H x v vl vu lo hi sl Q I rx hs pl pu q => sl_list pins s σ H x v vl vu lo hi sl Q I rx hs pl pu (by
  unfold mSlL at q
  obtain ⟨a, xs, e1, h1, h⟩ := q
  exact ⟨a, xs, e1, h1, h.go⟩)
theorem call_listM : CallR X (.type "list") (mListOf X.K) := fun pins s σ H xs us Q I r q => call_list_of pins s σ H xs us Q I r (by
  unfold mListOf at q
  obtain ⟨a, xs, e1, h1, h⟩ := q
  exact ⟨a, xs, e1, h1, h.go⟩)
/-- [e for x in range(n)] -/
theorem lcR1_of {ta : TA} {j : Nat} {te : TE} {vs : List Nat} {σ : L2.St} {H : Hp} {Q : VK} (hj : vs = [j]) (q : mLcR1 ta j te vs σ H Q) : tLc (iRng1 (cTA ta)) (gName j) tYes (cTE te) vs σ H Q := by
  unfold mLcR1 at q
  refine ⟨_, q, fun ws H1 r => ?_⟩
  obtain ⟨n, f, rfl, hn, he, hq⟩ := r
  obtain ⟨hn0, hn⟩ := hn
  have big : (2 : Int) ^ 62 = 4611686018427387904 := by decide
  refine ⟨n, rfl, by omega, by omega, fun D hD => ?_⟩
  refine lc_range (lo := 0) (n := n.toNat) (fun i H' => Same H1 H' ∧ H' D = some (.lst ((List.range i).map f))) ⟨same_upd hD, upd_same⟩ (fun i H' hi p => ⟨wipe_set hj, ?_⟩) fun H' p => hq D H' hD p.1 p.2
  show cTE te ((wipe σ vs).set j (some (.int (0 + (i : Int))))) H' _
  rw [Int.zero_add]
  refine ⟨_, he i hi H' p.1, fun y H'' r => ?_⟩
  obtain ⟨rfl, s2⟩ := r
  refine ⟨_, s2 _ _ p.2, szl (by rw [List.length_map, List.length_range]; omega), same_mut (p.1.trans s2) hD, ?_⟩
  rw [upd_same, List.range_succ, List.map_append]
  rfl
theorem take_snoc {α : Type} {l : List α} {i : Nat} {x : α} (h : l[i]? = some x) : l.take (i + 1) = l.take i ++ [x] := by
  rw [List.take_add_one, h]
  rfl
/-- [e for x in xs] -/
theorem lcL_of {K : PySem.W.Frag} {tl : TE} {j : Nat} {te : TE} {vs : List Nat} {σ : L2.St} {H : Hp} {Q : VK} (hj : vs = [j]) (q : mLcL K tl j te vs σ H Q) : tLc (iList K (cTE tl)) (gName j) tYes (cTE te) vs σ H Q := by
  unfold mLcL at q
  refine ⟨_, q, fun x H1 r => ?_⟩
  obtain ⟨a, xs, f, rfl, hx, hn, he, hq⟩ := r
  refine ⟨a, rfl, ⟨xs, hx⟩, fun D hD => ?_⟩
  refine lc_list (xs := xs) (fun i H' => Same H1 H' ∧ H' D = some (.lst ((xs.take i).map f))) ⟨same_upd hD, upd_same⟩ (fun i H' _ p => p.1.seq hx) (fun i y H' hi p => ⟨wipe_set hj, ?_⟩) fun H' p => hq D H' hD p.1 (by rw [p.2, List.take_length])
  have hy : y ∈ xs := List.mem_of_getElem? hi
  have hl : i < xs.length := (List.getElem?_eq_some_iff.mp hi).1
  show cTE te ((wipe σ vs).set j (some y)) H' _
  refine ⟨_, he y hy H' p.1, fun z H'' r => ?_⟩
  obtain ⟨rfl, s2⟩ := r
  refine ⟨_, s2 _ _ p.2, szl (by rw [List.length_map, List.length_take]; omega), same_mut (p.1.trans s2) hD, ?_⟩
  rw [upd_same, take_snoc hi, List.map_append]
  rfl
theorem pe_lcR1 {elt : Expr} {scope : Scope} {j : Nat} {x : Str} {a : Expr} {p p2 xpos : Pos} (hc : X.calm = true) (hN : X.N.Nodup) (hg : Gl X "range") (hm : X.mg "range" = none) (ha : PA X [a] ta) (ok : BlkOk X.N X.env.scope scope [(x, j)])
    (hgt : ∀ (s : Shared) (H : Hp) (C : Addr) (cl : List (Str × Addr)) (fp : List Addr), PG (X.blk s H scope (compEnvC scope cl C X.env) fp) (.Name x xpos) (gName j))
    (he : ∀ (s : Shared) (H : Hp) (C : Addr) (cl : List (Str × Addr)) (fp : List Addr), PE (X.blk s H scope (compEnvC scope cl C X.env) fp) elt te)
    (hs : starEach [a] X.env = [(false, eval a X.env)] := by rfl) (hs2 : ∀ y, foldedSetIterable (.Call (.Name "range" p) [a] [] p2) X.env y = pure y := by intro _; rfl) :
    PE X (.ListComp elt [⟨.Name x xpos, .Call (.Name "range" p) [a] [] p2, [], 0⟩] scope pos) (mLcR1 ta j te [j]) :=
  pe_weak (pe_lc hc hN (pi_range1 hg hm (pa_c ha) hs) ok hgt (fun _ _ _ _ _ => pts_nil) (fun s H C cl fp => pe_c (he s H C cl fp)) hs2) fun _ _ _ q => lcR1_of rfl q
theorem pe_lcL {elt it : Expr} {scope : Scope} {j : Nat} {x : Str} {xpos : Pos} (hc : X.calm = true) (hN : X.N.Nodup) {tl : TE} (ha : PE X it tl) (ok : BlkOk X.N X.env.scope scope [(x, j)])
    (hgt : ∀ (s : Shared) (H : Hp) (C : Addr) (cl : List (Str × Addr)) (fp : List Addr), PG (X.blk s H scope (compEnvC scope cl C X.env) fp) (.Name x xpos) (gName j))
    (he : ∀ (s : Shared) (H : Hp) (C : Addr) (cl : List (Str × Addr)) (fp : List Addr), PE (X.blk s H scope (compEnvC scope cl C X.env) fp) elt te) (hs2 : ∀ y, foldedSetIterable it X.env y = pure y := by intro _; rfl) :
    PE X (.ListComp elt [⟨.Name x xpos, it, [], 0⟩] scope pos) (mLcL X.K tl j te [j]) :=
  pe_weak (pe_lc hc hN (pi_list (pe_c ha)) ok hgt (fun _ _ _ _ _ => pts_nil) (fun s H C cl fp => pe_c (he s H C cl fp)) hs2) fun _ _ _ q => lcL_of rfl q
theorem ps_setLcR1 {i : Nat} {y : Str} {py spos : Pos} {elt : Expr} {scope : Scope} {j : Nat} {x : Str} {a : Expr} {p p2 xpos : Pos} (hc : X.calm = true) (hN : X.N.Nodup) (hy : X.N[i]? = some y) (hyl : X.env.scope.names.lookup y = some .local)
    (hsw : swapsWith (.ListComp elt [⟨.Name x xpos, .Call (.Name "range" p) [a] [] p2, [], 0⟩] scope pos) (some (.Name y py)) spos.line X.env = pure true) (hg : Gl X "range") (hm : X.mg "range" = none) (ha : PA X [a] ta) (ok : BlkOk X.N X.env.scope scope [(x, j)])
    (hgt : ∀ (s : Shared) (H : Hp) (C : Addr) (cl : List (Str × Addr)) (fp : List Addr), PG (X.blk s H scope (compEnvC scope cl C X.env) fp) (.Name x xpos) (gName j))
    (he : ∀ (s : Shared) (H : Hp) (C : Addr) (cl : List (Str × Addr)) (fp : List Addr), PE (X.blk s H scope (compEnvC scope cl C X.env) fp) elt te)
    (hs : starEach [a] X.env = [(false, eval a X.env)] := by rfl) (hs2 : ∀ y, foldedSetIterable (.Call (.Name "range" p) [a] [] p2) X.env y = pure y := by intro _; rfl) :
    PS X (.Assign [.Name y py] (.ListComp elt [⟨.Name x xpos, .Call (.Name "range" p) [a] [] p2, [], 0⟩] scope pos) spos) (tAsg (mLcR1 ta j te [j]) (gName i)) :=
  ps_weak (ps_setLc hc hN hy hyl hsw (pi_range1 hg hm (pa_c ha) hs) ok hgt (fun _ _ _ _ _ => pts_nil) (fun s H C cl fp => pe_c (he s H C cl fp)) hs2) fun _ _ _ q => lcR1_of rfl q
theorem ps_setLcL {i : Nat} {y : Str} {py spos : Pos} {elt it : Expr} {scope : Scope} {j : Nat} {x : Str} {xpos : Pos} {tl : TE} (hc : X.calm = true) (hN : X.N.Nodup) (hy : X.N[i]? = some y) (hyl : X.env.scope.names.lookup y = some .local)
    (hsw : swapsWith (.ListComp elt [⟨.Name x xpos, it, [], 0⟩] scope pos) (some (.Name y py)) spos.line X.env = pure true) (ha : PE X it tl) (ok : BlkOk X.N X.env.scope scope [(x, j)])
    (hgt : ∀ (s : Shared) (H : Hp) (C : Addr) (cl : List (Str × Addr)) (fp : List Addr), PG (X.blk s H scope (compEnvC scope cl C X.env) fp) (.Name x xpos) (gName j))
    (he : ∀ (s : Shared) (H : Hp) (C : Addr) (cl : List (Str × Addr)) (fp : List Addr), PE (X.blk s H scope (compEnvC scope cl C X.env) fp) elt te) (hs2 : ∀ y, foldedSetIterable it X.env y = pure y := by intro _; rfl) :
    PS X (.Assign [.Name y py] (.ListComp elt [⟨.Name x xpos, it, [], 0⟩] scope pos) spos) (tAsg (mLcL X.K tl j te [j]) (gName i)) :=
  ps_weak (ps_setLc hc hN hy hyl hsw (pi_list (pe_c ha)) ok hgt (fun _ _ _ _ _ => pts_nil) (fun s H C cl fp => pe_c (he s H C cl fp)) hs2) fun _ _ _ q => lcL_of rfl q
/-! ### loops that stop the walk -/
@[irreducible] def mForR1 (ta : TA) (j : Nat) (tb : TS) : TS := fun D σ H => ta σ H fun ws H1 => ∃ (n : Int) (Pv : Nat → L2.St → Hp → Prop), ws = [.int n] ∧ (-100000 ≤ n ∧ n ≤ 100000) ∧ Pv 0 σ H1 ∧
  (∀ i σ' H', i < n.toNat → Pv i σ' H' → tb { D with nx := Pv (i + 1), ct := Pv (i + 1), bk := D.nx } (σ'.set j (some (.int (i : Nat)))) H') ∧ ∀ σ' H', Pv n.toNat σ' H' → D.nx σ' H'
theorem rd_forR1 {ta : TA} {j : Nat} {tb : TS} {D : Ends} {σ : L2.St} {H : Hp} (h : ta σ H fun ws H1 => ∃ (n : Int) (Pv : Nat → L2.St → Hp → Prop), ws = [.int n] ∧ (-100000 ≤ n ∧ n ≤ 100000) ∧ Pv 0 σ H1 ∧
  (∀ i σ' H', i < n.toNat → Pv i σ' H' → tb { D with nx := Pv (i + 1), ct := Pv (i + 1), bk := D.nx } (σ'.set j (some (.int (i : Nat)))) H') ∧ ∀ σ' H', Pv n.toNat σ' H' → D.nx σ' H') : mForR1 ta j tb D σ H := by
  unfold mForR1
  exact h
theorem forR1_of {ta : TA} {j : Nat} {tb : TS} {D : Ends} {σ : L2.St} {H : Hp} (q : mForR1 ta j tb D σ H) : tFor (iRng1 (cTA ta)) (gName j) tb D σ H := by
  unfold mForR1 at q
  refine ⟨_, q, fun ws H1 r => ?_⟩
  obtain ⟨n, Pv, rfl, ⟨hn0, hn⟩, h0, hs, hd⟩ := r
  have big : (2 : Int) ^ 62 = 4611686018427387904 := by decide
  refine ⟨n, rfl, by omega, by omega, for_range (lo := 0) (n := n.toNat) Pv h0 (fun i σ' H' hi p => ?_) hd⟩
  show tb _ (σ'.set j (some (.int (0 + (i : Int))))) H'
  rw [Int.zero_add]
  exact hs i σ' H' hi p
theorem ps_forR1 {j : Nat} {x : Str} {a : Expr} {body : List Stmt} {tb : TS} {p p2 xpos : Pos} (hp : PassesOwn (model X.prog X.w) X.A X.env X.xe) (hc : X.calm = true) (hg : Gl X "range") (hm : X.mg "range" = none) (ha : PA X [a] ta) (hgt : PG X (.Name x xpos) (gName j)) (hb : PSs X body tb)
    (hs : starEach [a] X.env = [(false, eval a X.env)] := by rfl) (hs2 : ∀ y, foldedSetIterable (.Call (.Name "range" p) [a] [] p2) X.env y = pure y := by intro _; rfl) : PS X (.For (.Name x xpos) (.Call (.Name "range" p) [a] [] p2) body [] pos) (mForR1 ta j tb) :=
  ps_weak (ps_for hp hc (pi_range1 hg hm (pa_c ha) hs) hgt hb hs2) fun _ _ _ q => forR1_of q
@[irreducible] def mForR2 (ta : TA) (j : Nat) (tb : TS) : TS := fun D σ H => ta σ H fun ws H1 => ∃ (lo n : Int) (Pv : Nat → L2.St → Hp → Prop), ws = [.int lo, .int n] ∧ (-4000000000000000000 ≤ lo ∧ lo ≤ 4000000000000000000 ∧ -4000000000000000000 ≤ n ∧ n ≤ 4000000000000000000) ∧ Pv 0 σ H1 ∧
  (∀ i σ' H', i < (n - lo).toNat → Pv i σ' H' → tb { D with nx := Pv (i + 1), ct := Pv (i + 1), bk := D.nx } (σ'.set j (some (.int (lo + (i : Int))))) H') ∧ ∀ σ' H', Pv (n - lo).toNat σ' H' → D.nx σ' H'
theorem rd_forR2 {ta : TA} {j : Nat} {tb : TS} {D : Ends} {σ : L2.St} {H : Hp} (h : ta σ H fun ws H1 => ∃ (lo n : Int) (Pv : Nat → L2.St → Hp → Prop), ws = [.int lo, .int n] ∧ (-4000000000000000000 ≤ lo ∧ lo ≤ 4000000000000000000 ∧ -4000000000000000000 ≤ n ∧ n ≤ 4000000000000000000) ∧ Pv 0 σ H1 ∧
  (∀ i σ' H', i < (n - lo).toNat → Pv i σ' H' → tb { D with nx := Pv (i + 1), ct := Pv (i + 1), bk := D.nx } (σ'.set j (some (.int (lo + (i : Int))))) H') ∧ ∀ σ' H', Pv (n - lo).toNat σ' H' → D.nx σ' H') : mForR2 ta j tb D σ H := by
  unfold mForR2
  exact h
theorem ps_forR2 {j : Nat} {x : Str} {a b : Expr} {body : List Stmt} {tb : TS} {p p2 xpos : Pos} (hp : PassesOwn (model X.prog X.w) X.A X.env X.xe) (hc : X.calm = true) (hg : Gl X "range") (hm : X.mg "range" = none) (ha : PA X [a, b] ta) (hgt : PG X (.Name x xpos) (gName j)) (hb : PSs X body tb)
    (hs : starEach [a, b] X.env = [(false, eval a X.env), (false, eval b X.env)] := by rfl) (hs3 : starEach [b] X.env = [(false, eval b X.env)] := by rfl) (hs2 : ∀ y, foldedSetIterable (.Call (.Name "range" p) [a, b] [] p2) X.env y = pure y := by intro _; rfl) :
    PS X (.For (.Name x xpos) (.Call (.Name "range" p) [a, b] [] p2) body [] pos) (mForR2 ta j tb) :=
  ps_weak (ps_for hp hc (pi_range2 hg hm (pa_c ha) hs hs3) hgt hb hs2) fun D σ H q => by
    unfold mForR2 at q
    refine ⟨_, q, fun ws H1 r => ?_⟩
    obtain ⟨lo, n, Pv, rfl, ⟨h1, h2, h3, h4⟩, h0, hs, hd⟩ := r
    have big : (2 : Int) ^ 62 = 4611686018427387904 := by decide
    exact ⟨lo, n, rfl, ⟨by omega, by omega, by omega, by omega⟩, for_range (lo := lo) (n := (n - lo).toNat) Pv h0 (fun i σ' H' hi p => hs i σ' H' hi p) hd⟩
/-- for x in xs -/
@[irreducible] def mForL (K : PySem.W.Frag) (tl : TE) (j : Nat) (tb : TS) : TS := fun D σ H => tl σ H fun x H1 => ∃ (a : Addr) (xs : List V) (Pv : Nat → L2.St → Hp → Prop), x = .ref a ∧ SqL K H1 a xs ∧ Pv 0 σ H1 ∧ (∀ i σ' H', i ≤ xs.length → Pv i σ' H' → SqL K H' a xs) ∧
  (∀ i y σ' H', xs[i]? = some y → Pv i σ' H' → tb { D with nx := Pv (i + 1), ct := Pv (i + 1), bk := D.nx } (σ'.set j (some y)) H') ∧ ∀ σ' H', Pv xs.length σ' H' → D.nx σ' H'
theorem rd_forL {K : PySem.W.Frag} {tl : TE} {j : Nat} {tb : TS} {D : Ends} {σ : L2.St} {H : Hp} (h : tl σ H fun x H1 => ∃ (a : Addr) (xs : List V) (Pv : Nat → L2.St → Hp → Prop), x = .ref a ∧ SqL K H1 a xs ∧ Pv 0 σ H1 ∧ (∀ i σ' H', i ≤ xs.length → Pv i σ' H' → SqL K H' a xs) ∧
  (∀ i y σ' H', xs[i]? = some y → Pv i σ' H' → tb { D with nx := Pv (i + 1), ct := Pv (i + 1), bk := D.nx } (σ'.set j (some y)) H') ∧ ∀ σ' H', Pv xs.length σ' H' → D.nx σ' H') : mForL K tl j tb D σ H := by
  unfold mForL
  exact h
theorem ps_forL {j : Nat} {x : Str} {it : Expr} {body : List Stmt} {tb : TS} {tl : TE} {xpos : Pos} (hp : PassesOwn (model X.prog X.w) X.A X.env X.xe) (hc : X.calm = true) (ha : PE X it tl) (hgt : PG X (.Name x xpos) (gName j)) (hb : PSs X body tb)
    (hs2 : ∀ y, foldedSetIterable it X.env y = pure y := by intro _; rfl) : PS X (.For (.Name x xpos) it body [] pos) (mForL X.K tl j tb) :=
  ps_weak (ps_for hp hc (pi_list (pe_c ha)) hgt hb hs2) fun D σ H q => by
    unfold mForL at q
    refine ⟨_, q, fun x H1 r => ?_⟩
    obtain ⟨a, xs, Pv, rfl, hx, h0, hl, hs, hd⟩ := r
    exact ⟨a, rfl, ⟨xs, hx⟩, for_list (xs := xs) Pv h0 hl (fun i y σ' H' hi p => hs i y σ' H' hi p) hd⟩
/-- for .. in xs, the target of any form -/
@[irreducible] def mForG (K : PySem.W.Frag) (tl : TE) (g : TG) (tb : TS) : TS := fun D σ H => tl σ H fun x H1 => ∃ (a : Addr) (xs : List V) (Pv : Nat → L2.St → Hp → Prop), x = .ref a ∧ SqL K H1 a xs ∧ Pv 0 σ H1 ∧ (∀ i σ' H', i ≤ xs.length → Pv i σ' H' → SqL K H' a xs) ∧
  (∀ i y σ' H', xs[i]? = some y → Pv i σ' H' → g y σ' H' fun σ2 H2 => tb { D with nx := Pv (i + 1), ct := Pv (i + 1), bk := D.nx } σ2 H2) ∧ ∀ σ' H', Pv xs.length σ' H' → D.nx σ' H'
theorem rd_forG {K : PySem.W.Frag} {tl : TE} {g : TG} {tb : TS} {D : Ends} {σ : L2.St} {H : Hp} (h : tl σ H fun x H1 => ∃ (a : Addr) (xs : List V) (Pv : Nat → L2.St → Hp → Prop), x = .ref a ∧ SqL K H1 a xs ∧ Pv 0 σ H1 ∧ (∀ i σ' H', i ≤ xs.length → Pv i σ' H' → SqL K H' a xs) ∧
  (∀ i y σ' H', xs[i]? = some y → Pv i σ' H' → g y σ' H' fun σ2 H2 => tb { D with nx := Pv (i + 1), ct := Pv (i + 1), bk := D.nx } σ2 H2) ∧ ∀ σ' H', Pv xs.length σ' H' → D.nx σ' H') : mForG K tl g tb D σ H := by
  unfold mForG
  exact h
theorem ps_forG {tg it : Expr} {body : List Stmt} {g : TG} {tb : TS} {tl : TE} (hp : PassesOwn (model X.prog X.w) X.A X.env X.xe) (hc : X.calm = true) (ha : PE X it tl) (hgt : PG X tg g) (hb : PSs X body tb)
    (hs2 : ∀ y, foldedSetIterable it X.env y = pure y := by intro _; rfl) : PS X (.For tg it body [] pos) (mForG X.K tl g tb) :=
  ps_weak (ps_for hp hc (pi_list (pe_c ha)) hgt hb hs2) fun D σ H q => by
    unfold mForG at q
    refine ⟨_, q, fun x H1 r => ?_⟩
    obtain ⟨a, xs, Pv, rfl, hx, h0, hl, hs, hd⟩ := r
    exact ⟨a, rfl, ⟨xs, hx⟩, for_list (xs := xs) Pv h0 hl (fun i y σ' H' hi p => hs i y σ' H' hi p) hd⟩
/-- for x, y in zip(xs, ys), lists of one length -/
@[irreducible] def mForZ (K : PySem.W.Frag) (ta : TA) (i1 i2 : Nat) (tb : TS) : TS := fun D σ H => ta σ H fun ws H1 => ∃ (a b : Addr) (xs ys : List V) (Pv : Nat → L2.St → Hp → Prop), ws = [.ref a, .ref b] ∧ SqL K H1 a xs ∧ SqL K H1 b ys ∧ xs.length = ys.length ∧ Pv 0 σ H1 ∧ (∀ i σ' H', Pv i σ' H' → SqL K H' a xs ∧ SqL K H' b ys) ∧
  (∀ i x y σ' H' H'', xs[i]? = some x → ys[i]? = some y → Pv i σ' H' → Same H' H'' → tb { D with nx := Pv (i + 1), ct := Pv (i + 1), bk := D.nx } ((σ'.set i1 (some x)).set i2 (some y)) H'') ∧ ∀ σ' H', Pv xs.length σ' H' → D.nx σ' H'
theorem rd_forZ {K : PySem.W.Frag} {ta : TA} {i1 i2 : Nat} {tb : TS} {D : Ends} {σ : L2.St} {H : Hp} (h : ta σ H fun ws H1 => ∃ (a b : Addr) (xs ys : List V) (Pv : Nat → L2.St → Hp → Prop), ws = [.ref a, .ref b] ∧ SqL K H1 a xs ∧ SqL K H1 b ys ∧ xs.length = ys.length ∧ Pv 0 σ H1 ∧ (∀ i σ' H', Pv i σ' H' → SqL K H' a xs ∧ SqL K H' b ys) ∧
  (∀ i x y σ' H' H'', xs[i]? = some x → ys[i]? = some y → Pv i σ' H' → Same H' H'' → tb { D with nx := Pv (i + 1), ct := Pv (i + 1), bk := D.nx } ((σ'.set i1 (some x)).set i2 (some y)) H'') ∧ ∀ σ' H', Pv xs.length σ' H' → D.nx σ' H') : mForZ K ta i1 i2 tb D σ H := by
  unfold mForZ
  exact h
theorem ps_forZ {e e2 : Expr} {kk : Nat} {p p2 tpos : Pos} {i1 i2 : Nat} {body : List Stmt} {tb : TS} {t1 t2 : Expr} (hp : PassesOwn (model X.prog X.w) X.A X.env X.xe) (hc : X.calm = true) (hg : Gl X "zip") (hm : X.mg "zip" = none) (ha : PA X [e, e2] ta)
    (hgt : PG X (.Tuple [t1, t2] kk tpos) (gTup X.K 2 (gCons (gName i1) (gCons (gName i2) gNil)))) (hb : PSs X body tb)
    (hs : starEach [e, e2] X.env = (false, eval e X.env) :: starEach [e2] X.env := by rfl) (hpl : (backTo p2 (starEach [e2] X.env)).any (·.1) = false := by rfl) (hs2 : ∀ y, foldedSetIterable (.Call (.Name "zip" p) [e, e2] [] p2) X.env y = pure y := by intro _; rfl) :
    PS X (.For (.Tuple [t1, t2] kk tpos) (.Call (.Name "zip" p) [e, e2] [] p2) body [] pos) (mForZ X.K ta i1 i2 tb) :=
  ps_weak (ps_for hp hc (pi_zip hg hm (pa_c ha) hs hpl) hgt hb hs2) fun D σ H q => by
    unfold mForZ at q
    refine ⟨_, q, fun ws H1 r => ?_⟩
    obtain ⟨a, b, xs, ys, Pv, rfl, hx, hy, hl, h0, hq, hs, hd⟩ := r
    refine ⟨a, b, xs, ys, rfl, hx, hy, RZ.for_zipL hl Pv h0 hq (fun i x y T σ' H' h1 h2 p hT => ?_) hd⟩
    exact ⟨T, [x, y], rfl, st_of upd_same, rfl, x, [y], rfl, y, [], rfl, rfl, hs i x y σ' H' _ h1 h2 p (same_upd hT)⟩
end
theorem ite_ei {x y : Int} {A B : Prop} (hc : x = y) (h : A) : if decide (V.int x = V.int y) = true then A else B := ite_t (congrArg V.int hc) h
theorem ite_eif {x y : Int} {A B : Prop} (hc : x ≠ y) (h : B) : if decide (V.int x = V.int y) = true then A else B := ite_f (fun e => hc (V.int.inj e)) h
theorem ite_ni {x y : Int} {A B : Prop} (hc : x = y) (h : B) : if (!decide (V.int x = V.int y)) = true then A else B := ite_nf (congrArg V.int hc) h
theorem ite_nit {x y : Int} {A B : Prop} (hc : x ≠ y) (h : A) : if (!decide (V.int x = V.int y)) = true then A else B := ite_nt (fun e => hc (V.int.inj e)) h
theorem ite_eby {x y : Int} {A B : Prop} (h1 : x = y → A) (h2 : x ≠ y → B) : if decide (V.int x = V.int y) = true then A else B := ite_by (fun e => h1 (V.int.inj e)) (fun n => h2 fun e => n (congrArg V.int e))
theorem ite_enby {x y : Int} {A B : Prop} (h1 : x ≠ y → A) (h2 : x = y → B) : if (!decide (V.int x = V.int y)) = true then A else B := ite_nby (fun n => h1 fun e => n (congrArg V.int e)) (fun e => h2 (V.int.inj e))

/-! ### branches that stop the walk -/
@[irreducible] def Br (b : Bool) (A B : Prop) : Prop := if b = true then A else B
section
variable {b : Bool} {A B : Prop}
theorem Br.un (h : Br b A B) : if b = true then A else B := by
  unfold Br at h
  exact h
theorem br_of (h : if b = true then A else B) : Br b A B := by
  unfold Br
  exact h
theorem br_T (h : A) : Br true A B := br_of (iteT h)
theorem br_F (h : B) : Br false A B := br_of (iteF h)
theorem br_nT (h : A) : Br (!false) A B := br_of (iteT h)
theorem br_nF (h : B) : Br (!true) A B := br_of (iteF h)
theorem br_t {c : Prop} [Decidable c] (hc : c) (h : A) : Br (decide c) A B := br_of (ite_t hc h)
theorem br_f {c : Prop} [Decidable c] (hc : ¬ c) (h : B) : Br (decide c) A B := br_of (ite_f hc h)
theorem br_nt {c : Prop} [Decidable c] (hc : ¬ c) (h : A) : Br (!decide c) A B := br_of (ite_nt hc h)
theorem br_nf {c : Prop} [Decidable c] (hc : c) (h : B) : Br (!decide c) A B := br_of (ite_nf hc h)
theorem br_by {c : Prop} [Decidable c] (h1 : c → A) (h2 : ¬ c → B) : Br (decide c) A B := br_of (ite_by h1 h2)
theorem br_nby {c : Prop} [Decidable c] (h1 : ¬ c → A) (h2 : c → B) : Br (!decide c) A B := br_of (ite_nby h1 h2)
theorem br_ei {x y : Int} (hc : x = y) (h : A) : Br (decide (V.int x = V.int y)) A B := br_of (ite_ei hc h)
theorem br_eif {x y : Int} (hc : x ≠ y) (h : B) : Br (decide (V.int x = V.int y)) A B := br_of (ite_eif hc h)
theorem br_ni {x y : Int} (hc : x = y) (h : B) : Br (!decide (V.int x = V.int y)) A B := br_of (ite_ni hc h)
theorem br_nit {x y : Int} (hc : x ≠ y) (h : A) : Br (!decide (V.int x = V.int y)) A B := br_of (ite_nit hc h)
theorem br_eby {x y : Int} (h1 : x = y → A) (h2 : x ≠ y → B) : Br (decide (V.int x = V.int y)) A B := br_of (ite_eby h1 h2)
theorem br_enby {x y : Int} (h1 : x ≠ y → A) (h2 : x = y → B) : Br (!decide (V.int x = V.int y)) A B := br_of (ite_enby h1 h2)
theorem br_b (h1 : b = true → A) (h2 : b = false → B) : Br b A B := by
  cases b with
  | true => exact br_T (h1 rfl)
  | false => exact br_F (h2 rfl)
end
def mIfS (c : TT) (t u : TS) : TS := fun D σ H => c σ H fun b H1 => Br b (t D σ H1) (u D σ H1)
def mIf (c : TT) (ta tb : TE) : TE := fun σ H Q => c σ H fun b H1 => Br b (ta σ H1 Q) (tb σ H1 Q)
def mAnd (t u : TT) : TT := fun σ H Q => t σ H fun c H1 => Br c (u σ H1 Q) (Q false H1)
def mOr (t u : TT) : TT := fun σ H Q => t σ H fun c H1 => Br c (Q true H1) (u σ H1 Q)
def mAndV (ta tb : TE) : TE := fun σ H Q => ta σ H fun x H1 => ∃ c, x = .bl c ∧ Br c (tb σ H1 Q) (Q (.bl false) H1)
def mOrV (ta tb : TE) : TE := fun σ H Q => ta σ H fun x H1 => ∃ c, x = .bl c ∧ Br c (Q (.bl true) H1) (tb σ H1 Q)
def mChain (r r' : R2) (ta tb tc : TE) : TE := fun σ H Q => ta σ H fun x H1 => tb σ H1 fun y H2 => r x y H2 fun z H3 => ∃ k, z = .bl k ∧ Br k (tc σ H3 fun w' H4 => r' y w' H4 Q) (Q (.bl false) H3)
def mNot (t : TT) : TT := fun σ H Q => t σ H fun c H1 => Q (!c) H1
def cR2 (r : R2) : R2 := fun x y H Q => ∃ R : VK, r x y H R ∧ ∀ v H', R v H' → Q v H'
section
variable {X : Cx} {e a b c : Expr} {ta tb tc : TE} {tt tA tB' : TT} {pos : Pos} {t u : TS} {rest : List Expr}
theorem pw_weak {tt' : TT} (h : PW X e tt) (w : ∀ σ H Q, tt' σ H Q → tt σ H Q) : PW X e tt' := ⟨fun wh pins s σ H Q I q => h.run wh pins s σ H Q I (w σ H Q q)⟩
theorem pt_weak {tt' : TT} (h : PT X e tt) (w : ∀ σ H Q, tt' σ H Q → tt σ H Q) : PT X e tt' := ⟨fun pins s σ H Q I q => h.run pins s σ H Q I (w σ H Q q)⟩
theorem opr_c {f : Value → Value → Sem Value} {r : R2} (h : OpR X f r) : OpR X f (cR2 r) := fun pins s σ H x y v u Q I rx ry ⟨R, h1, h2⟩ => thn (h pins s σ H x y v u R I rx ry h1) fun w s1 ⟨z, H1, I1, rz, q⟩ => ⟨z, H1, I1, rz, h2 _ _ q⟩
theorem ps_ifM {bs us : List Stmt} (hc : PT X c tt) (ha : PSs X bs t) (hb : PSs X us u) : PS X (.If c bs us pos) (mIfS tt t u) := ps_weak (ps_if (pt_c hc) ha hb) fun D σ H q => ⟨_, q, fun b H1 r => r.un⟩
theorem pe_ifM (hc : PT X c tt) (ha : PE X a ta) (hb : PE X b tb) : PE X (.IfExp c a b pos) (mIf tt ta tb) := pe_weak (pe_ifExp (pt_c hc) ha hb) fun σ H Q q => ⟨_, q, fun b H1 r => r.un⟩
theorem pw_andM (ha : PT X a tA) (hb : PW X (.BoolOp .And (b :: rest) pos) tB') : PW X (.BoolOp .And (a :: b :: rest) pos) (mAnd tA tB') := pw_weak (pw_and (pt_c ha) hb) fun σ H Q q => ⟨_, q, fun b H1 r => r.un⟩
theorem pw_orM (ha : PT X a tA) (hb : PW X (.BoolOp .Or (b :: rest) pos) tB') : PW X (.BoolOp .Or (a :: b :: rest) pos) (mOr tA tB') := pw_weak (pw_or (pt_c ha) hb) fun σ H Q q => ⟨_, q, fun b H1 r => r.un⟩
theorem pe_andM (ha : PE X a ta) (hb : PE X (.BoolOp .And (b :: rest) pos) tb) : PE X (.BoolOp .And (a :: b :: rest) pos) (mAndV ta tb) := pe_weak (pe_and (pe_c ha) hb) fun σ H Q q => ⟨_, q, fun v H1 ⟨c, e, r⟩ => ⟨c, e, r.un⟩⟩
theorem pe_orM (ha : PE X a ta) (hb : PE X (.BoolOp .Or (b :: rest) pos) tb) : PE X (.BoolOp .Or (a :: b :: rest) pos) (mOrV ta tb) := pe_weak (pe_or (pe_c ha) hb) fun σ H Q q => ⟨_, q, fun v H1 ⟨c, e, r⟩ => ⟨c, e, r.un⟩⟩
theorem pe_chainM {op op' : CmpOp} {r r' : R2} (ho : OpR X (compareOp op) r) (ho' : OpR X (compareOp op') r') (ha : PE X a ta) (hb : PE X b tb) (hc : PE X c tc) (hm : lastMarks [op, op'] [b, c] = false := by with_unfolding_all rfl) : PE X (.Compare a [op, op'] [b, c] pos) (mChain r r' ta tb tc) :=
  pe_weak (pe_chain (opr_c ho) ho' (pe_c ha) (pe_c hb) hc hm) fun σ H Q q => ⟨_, q, fun x H1 q1 => ⟨_, q1, fun y H2 q2 => ⟨_, q2, fun z H3 ⟨k, e, r⟩ => ⟨k, e, r.un⟩⟩⟩⟩
theorem pt_chainM {op op' : CmpOp} {r r' : R2} (ho : OpR X (compareOp op) r) (ho' : OpR X (compareOp op') r') (ha : PE X a ta) (hb : PE X b tb) (hc : PE X c tc) (hm : lastMarks [op, op'] [b, c] = false := by with_unfolding_all rfl) : PT X (.Compare a [op, op'] [b, c] pos) (tTest (mChain r r' ta tb tc)) :=
  pt_weak (pt_chain (opr_c ho) ho' (pe_c ha) (pe_c hb) hc hm) fun σ H Q q => ⟨_, q, fun x H1 q1 => ⟨_, q1, fun y H2 q2 => ⟨_, q2, fun z H3 ⟨k, e, r⟩ => ⟨k, e, r.un⟩⟩⟩⟩
end
/-! ### the operators, told without a redex -/
def mAdd : R2 := fun x y H Q => ∃ i j, x = .int i ∧ y = .int j ∧ Q (.int (i + j)) H
def mSub : R2 := fun x y H Q => ∃ i j, x = .int i ∧ y = .int j ∧ Q (.int (i - j)) H
def mMul : R2 := fun x y H Q => ∃ i j, x = .int i ∧ y = .int j ∧ CMul i j ∧ Q (.int (i * j)) H
def mMulW : R2 := fun x y H Q => ∃ i j, x = .int i ∧ y = .int j ∧ CMulW i j ∧ Q (.int (i * j)) H
def mDiv : R2 := fun x y H Q => ∃ i j, x = .int i ∧ y = .int j ∧ CDiv i j ∧ Q (.int (i / j)) H
def mDivW : R2 := fun x y H Q => ∃ i j, x = .int i ∧ y = .int j ∧ CDivW i j ∧ Q (.int (i / j)) H
def mMod : R2 := fun x y H Q => ∃ i j, x = .int i ∧ y = .int j ∧ 0 < j ∧ Q (.int (i % j)) H
def mPow : R2 := fun x y H Q => ∃ i j, x = .int i ∧ y = .int j ∧ CPow i j ∧ Q (.int (i ^ j.toNat)) H
def mShl1 : R2 := fun x y H Q => ∃ j, x = .int 1 ∧ y = .int j ∧ (0 ≤ j ∧ j ≤ 1000000) ∧ Q (.int (2 ^ j.toNat)) H
def mShl : R2 := fun x y H Q => ∃ i j, x = .int i ∧ y = .int j ∧ CShl i j ∧ Q (.int (i * 2 ^ j.toNat)) H
def mShr : R2 := fun x y H Q => ∃ i j, x = .int i ∧ y = .int j ∧ 0 ≤ j ∧ Q (.int (i / 2 ^ j.toNat)) H
def mAndI : R2 := fun x y H Q => ∃ i j, x = .int i ∧ y = .int j ∧ Q (.int (Builtin.bitAnd i j)) H
def mXorI : R2 := fun x y H Q => ∃ i j, x = .int i ∧ y = .int j ∧ Q (.int (Builtin.bitXor i j)) H
def mLt : R2 := fun x y H Q => ∃ i j, x = .int i ∧ y = .int j ∧ Q (.bl (decide (i < j))) H
def mLe : R2 := fun x y H Q => ∃ i j, x = .int i ∧ y = .int j ∧ Q (.bl (decide (i ≤ j))) H
def mGt : R2 := fun x y H Q => ∃ i j, x = .int i ∧ y = .int j ∧ Q (.bl (decide (j < i))) H
def mGe : R2 := fun x y H Q => ∃ i j, x = .int i ∧ y = .int j ∧ Q (.bl (decide (j ≤ i))) H
section
variable {X : Cx}
theorem op_addM : OpR X (binaryOp .Add) mAdd := op_add
theorem op_subM : OpR X (binaryOp .Sub) mSub := op_sub
theorem op_mulM : OpR X (binaryOp .Mult) mMul := op_mul
theorem op_mulWM : OpR X (binaryOp .Mult) mMulW := op_mulW
theorem op_fdivM : OpR X (binaryOp .FloorDiv) mDiv := op_fdiv
theorem op_fdivWM : OpR X (binaryOp .FloorDiv) mDivW := op_fdivW
theorem op_modM : OpR X (binaryOp .Mod) mMod := op_mod
theorem op_powM : OpR X (binaryOp .Pow) mPow := op_pow
theorem op_shl1M : OpR X (binaryOp .LShift) mShl1 := fun pins s σ H x y v u Q I rx ry ⟨j, e1, e2, hj, q⟩ => op_shl pins s σ H x y v u Q I rx ry ⟨1, j, e1, e2, ⟨hj.1, hj.2, by decide⟩, by
  show Q (.int (1 * 2 ^ j.toNat)) H
  rw [Int.one_mul]
  exact q⟩
theorem op_shlM : OpR X (binaryOp .LShift) mShl := op_shlW
theorem op_shrM : OpR X (binaryOp .RShift) mShr := op_shr
theorem op_bandM : OpR X (binaryOp .BitAnd) mAndI := op_and
theorem op_bxorM : OpR X (binaryOp .BitXor) mXorI := op_xor
theorem op_ltM : OpR X (compareOp .Lt) mLt := op_lt
theorem op_leM : OpR X (compareOp .LtE) mLe := op_le
theorem op_gtM : OpR X (compareOp .Gt) mGt := op_gt
theorem op_geM : OpR X (compareOp .GtE) mGe := op_ge
end

theorem two_pos (k : Nat) : (0 : Int) < 2 ^ k := Int.pow_pos (by decide)

@[irreducible] def mIsi (K : PySem.W.Frag) : List V → Hp → VK → Prop := rIsi K
theorem call_isiM {X : Cx} : CallR X (.builtin "isinstance") (mIsi X.K) := fun pins s σ H xs us Q I r q => call_isi pins s σ H xs us Q I r (by
  unfold mIsi at q
  exact q)
section
variable {K : PySem.W.Frag} {H : Hp} {Q : VK}
theorem rd_isiIB {i : Int} (h : Q (.bl false) H) : mIsi K [.int i, .ty "bool"] H Q := by
  unfold mIsi
  exact ⟨_, _, _, _, false, rfl, ClsV.ty _, TyX.base (TyOf.int _), by rfl, h⟩
theorem rd_isiII {i : Int} (h : Q (.bl true) H) : mIsi K [.int i, .ty "int"] H Q := by
  unfold mIsi
  exact ⟨_, _, _, _, true, rfl, ClsV.ty _, TyX.base (TyOf.int _), by rfl, h⟩
theorem rd_isiBB {b : Bool} (h : Q (.bl true) H) : mIsi K [.bl b, .ty "bool"] H Q := by
  unfold mIsi
  exact ⟨_, _, _, _, true, rfl, ClsV.ty _, TyX.base (TyOf.bl _), by rfl, h⟩
theorem rd_isiTT {a : Addr} {xs : List V} (e : H a = some (.tup xs)) (h : Q (.bl true) H) : mIsi K [.ref a, .ty "tuple"] H Q := by
  unfold mIsi
  exact ⟨_, _, _, _, true, rfl, ClsV.ty _, TyX.base (TyOf.tup e), by rfl, h⟩
theorem rd_isiLL {a : Addr} {xs : List V} (e : H a = some (.lst xs)) (h : Q (.bl true) H) : mIsi K [.ref a, .ty "list"] H Q := by
  unfold mIsi
  exact ⟨_, _, _, _, true, rfl, ClsV.ty _, TyX.base (TyOf.lst e), by rfl, h⟩
end

/-! ### equal data -/
def Sh (n : Nat) (d : PyData) : Prop := d.canLay0 = true ∧ d.depth ≤ n
def ShA (n : Nat) (ds : List PyData) : Prop := PyData.canLayAll0 ds = true ∧ PyData.depthAll ds ≤ n
theorem sh_int {i : Int} {n : Nat} : Sh n (.int i) := ⟨rfl, Nat.zero_le _⟩
theorem sh_bl {i : Bool} {n : Nat} : Sh n (.bool i) := ⟨rfl, Nat.zero_le _⟩
theorem sh_non {n : Nat} : Sh n .none := ⟨rfl, Nat.zero_le _⟩
theorem sh_str {x : Str} {n : Nat} (h : PyData.canLay0 (.str x) = true) : Sh n (.str x) := ⟨h, Nat.zero_le _⟩
theorem sh_nil {n : Nat} : ShA n [] := ⟨rfl, Nat.zero_le _⟩
theorem sh_cons {n : Nat} {d : PyData} {ds : List PyData} (h : Sh n d) (k : ShA n ds) : ShA n (d :: ds) := by
  refine ⟨?_, ?_⟩
  · show (d.canLay0 && PyData.canLayAll0 ds) = true
    rw [h.1, k.1]
    rfl
  · show max d.depth (PyData.depthAll ds) ≤ n
    have := h.2
    have := k.2
    omega
theorem sh_lst {n : Nat} {ds : List PyData} (h : ShA n ds) : Sh (n + 1) (.list ds) := ⟨h.1, Nat.succ_le_succ h.2⟩
theorem sh_tup {n : Nat} {ds : List PyData} (h : ShA n ds) : Sh (n + 1) (.tuple ds) := ⟨h.1, Nat.succ_le_succ h.2⟩
theorem sh_map {α : Type} {n : Nat} {f : α → PyData} (h : ∀ x, Sh n (f x)) : ∀ l : List α, ShA n (l.map f)
  | [] => sh_nil
  | x :: r => sh_cons (h x) (sh_map h r)
theorem sh_app {n : Nat} : ∀ {ds es : List PyData}, ShA n ds → ShA n es → ShA n (ds ++ es)
  | [], _, _, k => k
  | d :: r, es, h, k => by
    have h1 : (d.canLay0 && PyData.canLayAll0 r) = true := h.1
    have h2 : max d.depth (PyData.depthAll r) ≤ n := h.2
    rw [Bool.and_eq_true] at h1
    exact sh_cons ⟨h1.1, by omega⟩ (sh_app ⟨h1.2, by omega⟩ k)
theorem Sh.shaped {n : Nat} {d : PyData} (h : Sh n d) (hn : n ≤ 64 := by decide) : SeqAt.shaped d = true := by
  unfold SeqAt.shaped
  rw [h.1, decide_eq_true (Nat.le_trans h.2 hn)]
  rfl
theorem sh_ints {n : Nat} (l : List Int) : ShA n (l.map PyData.int) := sh_map (fun _ => sh_int) l
section
variable {K : PySem.W.Frag} {H : Hp} {Q : VK} {x y : V}
theorem dpa_ints : ∀ l : List Int, DpAll K H (l.map V.int) (l.map PyData.int)
  | [] => .nil
  | i :: r => .cons (.int i) (dpa_ints r)
theorem dp_ints {a : Addr} {l : List Int} (h : SqL K H a (l.map V.int)) : Dp K H (.ref a) (.list (l.map PyData.int)) := .lst h (dpa_ints l)
@[irreducible] def mEqD (K : PySem.W.Frag) : R2 := rEqD K
@[irreducible] def mNeD (K : PySem.W.Frag) : R2 := rNeD K
theorem rd_eqS {n : Nat} (d : PyData) (h1 : Dp K H x d) (h2 : Dp K H y d) (hs : Sh n d) (h : Q (.bl true) H) (hn : n ≤ 64 := by decide) : mEqD K x y H Q := by
  unfold mEqD
  exact ⟨d, d, h1, h2, hs.shaped hn, hs.shaped hn, by rw [PySem.SeqAt.eqv_refl d hs.1]; exact h⟩
theorem rd_neS {n : Nat} (d : PyData) (h1 : Dp K H x d) (h2 : Dp K H y d) (hs : Sh n d) (h : Q (.bl false) H) (hn : n ≤ 64 := by decide) : mNeD K x y H Q := by
  unfold mNeD
  exact ⟨d, d, h1, h2, hs.shaped hn, hs.shaped hn, by rw [PySem.SeqAt.eqv_refl d hs.1]; exact h⟩
/-- of any two: the answer is that of the data -/
theorem rd_eqA {n m : Nat} (d e : PyData) (h1 : Dp K H x d) (h2 : Dp K H y e) (hs : Sh n d) (hs2 : Sh m e) (h : Q (.bl (PyData.eqv d e)) H) (hn : n ≤ 64 := by decide) (hm : m ≤ 64 := by decide) : mEqD K x y H Q := by
  unfold mEqD
  exact ⟨d, e, h1, h2, hs.shaped hn, hs2.shaped hm, h⟩
theorem rd_neA {n m : Nat} (d e : PyData) (h1 : Dp K H x d) (h2 : Dp K H y e) (hs : Sh n d) (hs2 : Sh m e) (h : Q (.bl (!PyData.eqv d e)) H) (hn : n ≤ 64 := by decide) (hm : m ≤ 64 := by decide) : mNeD K x y H Q := by
  unfold mNeD
  exact ⟨d, e, h1, h2, hs.shaped hn, hs2.shaped hm, h⟩
end
section
variable {X : Cx}
theorem op_eqDM (hu : X.A.units + 64 < cLine) : OpR X (compareOp .Eq) (mEqD X.K) := fun pins s σ H x y v u Q I rx ry q => op_eqD hu pins s σ H x y v u Q I rx ry (by
  unfold mEqD at q
  exact q)
theorem op_neDM (hu : X.A.units + 64 < cLine) : OpR X (compareOp .NotEq) (mNeD X.K) := fun pins s σ H x y v u Q I rx ry q => op_neD hu pins s σ H x y v u Q I rx ry (by
  unfold mNeD at q
  exact q)
end
/-! ### one-step readings that know their heap -/
@[irreducible] def mIxL (K : PySem.W.Frag) : R2 := rIxL K
theorem ix_listM {X : Cx} : IxR X (mIxL X.K) := fun value slice pins s σ H x y v u Q I rx ry q e => ix_list value slice pins s σ H x y v u Q I rx ry (by
  unfold mIxL at q
  exact q) e
@[irreducible] def mIxT (K : PySem.W.Frag) : R2 := rIxT K
theorem ix_tupM {X : Cx} : IxR X (mIxT X.K) := fun value slice pins s σ H x y v u Q I rx ry q e => ix_tup value slice pins s σ H x y v u Q I rx ry (by
  unfold mIxT at q
  exact q) e
section
variable {K : PySem.W.Frag} {H : Hp} {Q : VK} {a : Addr} {xs : List V} {k : Int} {v : V}
theorem rd_ixL (h : SqL K H a xs) (ha : atI xs k = some v) (q : Q v H) : mIxL K (.ref a) (.int k) H Q := by
  unfold mIxL
  exact ⟨a, xs, k, v, rfl, rfl, h, ha, q⟩
theorem rd_ixT (h : SqT K H a xs) (ha : atI xs k = some v) (q : Q v H) : mIxT K (.ref a) (.int k) H Q := by
  unfold mIxT
  exact ⟨a, xs, k, v, rfl, rfl, h, ha, q⟩
theorem rd_ixI {ns : List Int} (h : SqL K H a (ns.map V.int)) (h0 : 0 ≤ k) (h1 : k < (ns.length : Int)) (q : Q (.int (ns.getD k.toNat 0)) H) : mIxL K (.ref a) (.int k) H Q := rd_ixL h (at_int h0 h1) q
end
@[irreducible] def mLen (K : PySem.W.Frag) : List V → Hp → VK → Prop := fun xs H Q => ∃ p ys, xs = [.ref p] ∧ (SqL K H p ys ∨ SqT K H p ys) ∧ Q (.int ys.length) H
theorem call_lenM {X : Cx} : CallR X (.builtin "len") (mLen X.K) := fun pins s σ H xs us Q I r q => call_len_seq pins s σ H xs us Q I r (by
  unfold mLen at q
  exact q)
theorem rd_len {K : PySem.W.Frag} {H : Hp} {Q : VK} {a : Addr} {xs : List V} (h : SqL K H a xs) (q : Q (.int xs.length) H) : mLen K [.ref a] H Q := by
  unfold mLen
  exact ⟨a, xs, rfl, .inl h, q⟩
theorem rd_lenI {K : PySem.W.Frag} {H : Hp} {Q : VK} {a : Addr} {ns : List Int} (h : SqL K H a (ns.map V.int)) (q : Q (.int ns.length) H) : mLen K [.ref a] H Q := rd_len h (by rw [List.length_map]; exact q)
theorem rd_lenT {K : PySem.W.Frag} {H : Hp} {Q : VK} {a : Addr} {xs : List V} (h : SqT K H a xs) (q : Q (.int xs.length) H) : mLen K [.ref a] H Q := by
  unfold mLen
  exact ⟨a, xs, rfl, .inr h, q⟩
/-- xs.append(e) -/
@[irreducible] def mApp (x y : V) (H : Hp) (Q : VK) : Prop := ∃ l xs, x = .ref l ∧ H l = some (.lst xs) ∧ xs.length < 1000000 ∧ Q .non (upd H l (.lst (xs ++ [y])))
def mAppE (to te : TE) : TE := fun σ H Q => to σ H fun x H1 => ∃ l xs, x = .ref l ∧ H1 l = some (.lst xs) ∧ te σ H1 fun y H2 => mApp x y H2 Q
theorem rd_app {l : Addr} {xs : List V} {y : V} {H : Hp} {Q : VK} (h : H l = some (.lst xs)) (hz : xs.length < 1000000) (q : Q .non (upd H l (.lst (xs ++ [y])))) : mApp (.ref l) y H Q := by
  unfold mApp
  exact ⟨l, xs, rfl, h, hz, q⟩
theorem pe_app {X : Cx} {o e : Expr} {to te : TE} {apos cpos : Pos} (ho : PE X o to) (he : PE X e te) (hbase : attributeBase o "append" X.env (eval o X.env) = eval o X.env := by rfl)
    (hfew : ((backTo cpos (starEach [e] X.env)).all (fun x => !x.1) && (backToKw cpos (keywordEach [] X.env)).all (fun x => x.1.isSome)
      && decide ([e].length + ([] : List Keyword).length + (if ([] : List Keyword).isEmpty then 0 else 1) < 30)) = true := by rfl)
    (hline : (apos.endLine == cpos.line) = true := by rfl) (hs : starEach [e] X.env = (false, eval e X.env) :: starEach [] X.env := by rfl) (hplain : (backTo cpos (starEach [] X.env)).any (·.1) = false := by rfl) :
    PE X (.Call (.Attribute o "append" apos) [e] [] cpos) (mAppE to te) :=
  pe_weak (pe_bm PySem.F.plainAttrs_list PySem.F.slot_list_append PySem.F.type_list_append mt_append (pe_c ho) (pa_cons (pe_c he) pa_nil hs) hbase hfew hline hs hplain) fun σ H Q q => by
    refine ⟨_, q, fun x H1 r => ?_⟩
    obtain ⟨l, xs, rfl, h, r⟩ := r
    refine ⟨Or.inl ⟨rfl, _, SqL.of h⟩, _, r, fun y H2 r2 => ?_⟩
    unfold mApp at r2
    obtain ⟨l2, ys, e2, h2, hz, q2⟩ := r2
    exact ⟨l2, ys, y, e2, rfl, h2, szl hz, q2⟩
/-- o[i] = e, o a list -/
@[irreducible] def mSetL : V → V → V → Hp → (Hp → Prop) → Prop := rSetL
theorem set_listM {X : Cx} : PSet X mSetL := fun pins s σ H o i v uo ui uv Q I ro ri rv q => set_list pins s σ H o i v uo ui uv Q I ro ri rv (by
  unfold mSetL at q
  exact q)
theorem rd_setL {l : Addr} {xs : List V} {k : Int} {y : V} {H : Hp} {Q : Hp → Prop} (h : H l = some (.lst xs)) (h0 : 0 ≤ k) (h1 : k < (xs.length : Int)) (q : Q (upd H l (.lst (xs.set k.toNat y)))) : mSetL (.ref l) (.int k) y H Q := by
  unfold mSetL
  refine ⟨l, xs, k, k.toNat, rfl, rfl, h, ?_, q⟩
  unfold ixN
  first
    | (rw [if_pos h0, if_pos (by omega)]; done)
    | (rw [if_neg (by omega), if_pos (by omega)]; done)
    | simp [show ¬ k < 0 by omega, h0, h1]
/-- what a loop keeps of its own list: all else as it was -/
def But (p : Addr) (H H' : Hp) : Prop := ∀ b o, b ≠ p → H b = some o → H' b = some o

@[irreducible] def mSum (K : PySem.W.Frag) : List V → Hp → VK → Prop := rSum K
theorem call_sumM {X : Cx} (hc : X.calm = true) : CallR X (.builtin "sum") (mSum X.K) := fun pins s σ H xs us Q I r q => cr_sum hc pins s σ H xs us Q I r (by
  unfold mSum at q
  exact q)
theorem rd_sum {K : PySem.W.Frag} {H : Hp} {Q : VK} {a : Addr} {ns : List Int} (h : SqL K H a (ns.map V.int)) (q : Q (.int ns.sum) H) : mSum K [.ref a] H Q := by
  unfold mSum
  exact ⟨a, ns, rfl, h, q⟩

/-- isinstance(e, C), e the error that the suite holds, whatever its class -/
def mIsE (K : PySem.W.Frag) (cls : Value) (d : Option Addr) (a : Addr) : List V → Hp → VK → Prop := fun xs H Q => ∃ (D C : Addr) (b : Bool), xs = [.ref a, .ref C] ∧ cls = .ref D ∧ d = none ∧ ExcC K D ∧ PySem.W.kitOne K (.ref D) (.ref C) = some b ∧ Q (.bl b) H
theorem call_isEM {X : Cx} {a : Addr} {oe : Obj} {cls : Value} {d : Option Addr} {pn : List (Addr × Obj)} (hz : Zc cls d oe) (hf : ∃ vs, oe.data = .fields vs) : CallR (X.suite a ((a, oe) :: pn)) (.builtin "isinstance") (mIsE X.K cls d a) := by
  intro pins s σ H xs us Q I r h
  obtain ⟨D, C, b, rfl, rfl, rfl, hD, hk, q⟩ := h
  exact call_isE hD hz hf pins s σ H [.ref a, .ref C] us Q I r ⟨.ref C, .ref C, b, rfl, fun u hu => hu, hk, q⟩
theorem kit_same {K : PySem.W.Frag} {D : Addr} : PySem.W.kitOne K (.ref D) (.ref D) = some true := by
  unfold PySem.W.kitOne
  rw [if_pos (by simp)]

/-! ### constants, extend, repetition, min of three -/
theorem pe_gint {X : Cx} {x : Str} {n : Int} {pos : Pos} (hg : Gl X x) (hm : ∃ t, X.mg x = some (.int n t)) (hd : (x == ("__debug__" : Str)) = false := by decide) : PE X (.Name x pos) (tC (.int n)) := by
  obtain ⟨t, hm⟩ := hm
  exact pe_glob hg hm ⟨t, rfl⟩ hd
@[irreducible] def mExt (x y : V) (H : Hp) (Q : VK) : Prop := ∃ l b xs zs, x = .ref l ∧ y = .ref b ∧ H l = some (.lst xs) ∧ H b = some (.lst zs) ∧ xs.length + zs.length ≤ 1000000 ∧ Q .non (upd H l (.lst (xs ++ zs)))
def mExtE (to te : TE) : TE := fun σ H Q => to σ H fun x H1 => ∃ l xs, x = .ref l ∧ H1 l = some (.lst xs) ∧ te σ H1 fun y H2 => mExt x y H2 Q
theorem rd_ext {l b : Addr} {xs zs : List V} {H : Hp} {Q : VK} (h : H l = some (.lst xs)) (hb : H b = some (.lst zs)) (hz : xs.length + zs.length ≤ 1000000) (q : Q .non (upd H l (.lst (xs ++ zs)))) : mExt (.ref l) (.ref b) H Q := by
  unfold mExt
  exact ⟨l, b, xs, zs, rfl, rfl, h, hb, hz, q⟩
theorem pe_ext {X : Cx} {o e : Expr} {to te : TE} {apos cpos : Pos} (ho : PE X o to) (he : PE X e te) (hbase : attributeBase o "extend" X.env (eval o X.env) = eval o X.env := by rfl)
    (hfew : ((backTo cpos (starEach [e] X.env)).all (fun x => !x.1) && (backToKw cpos (keywordEach [] X.env)).all (fun x => x.1.isSome)
      && decide ([e].length + ([] : List Keyword).length + (if ([] : List Keyword).isEmpty then 0 else 1) < 30)) = true := by rfl)
    (hline : (apos.endLine == cpos.line) = true := by rfl) (hs : starEach [e] X.env = (false, eval e X.env) :: starEach [] X.env := by rfl) (hplain : (backTo cpos (starEach [] X.env)).any (·.1) = false := by rfl) :
    PE X (.Call (.Attribute o "extend" apos) [e] [] cpos) (mExtE to te) :=
  pe_weak (pe_bm PySem.F.plainAttrs_list PySem.F.slot_list_extend PySem.F.type_list_extend mt_extend (pe_c ho) (pa_cons (pe_c he) pa_nil hs) hbase hfew hline hs hplain) fun σ H Q q => by
    refine ⟨_, q, fun x H1 r => ?_⟩
    obtain ⟨l, xs, rfl, h, r⟩ := r
    refine ⟨Or.inl ⟨rfl, _, SqL.of h⟩, _, r, fun y H2 r2 => ?_⟩
    unfold mExt at r2
    obtain ⟨l2, b2, ys, zs, e2, rfl, h2, h3, hz, q2⟩ := r2
    exact ⟨l2, b2, ys, zs, e2, rfl, h2, h3, sz hz, q2⟩
theorem op_repM {X : Cx} : OpR X (binaryOp .Mult) mRep := fun pins s σ H x y v u Q I rx ry q => op_rep pins s σ H x y v u Q I rx ry (by
  unfold mRep at q
  obtain ⟨l, k, xs, e1, e2, h1, h0, hk, hz, h⟩ := q
  have big : (2 : Int) ^ 63 = 9223372036854775808 := by decide
  exact ⟨l, k, xs, e1, e2, h1, by omega, by omega, sz hz, h.go⟩)
theorem rd_rep {l : Addr} {k : Int} {xs : List V} {H : Hp} {Q : VK} (h1 : H l = some (.lst xs)) (h0 : 0 ≤ k) (hk : k ≤ 100000) (hz : xs.length * k.toNat ≤ 1000000) (h : NewO (.lst (List.replicate k.toNat xs).flatten) H Q) : mRep (.ref l) (.int k) H Q := by
  unfold mRep
  exact ⟨l, k, xs, rfl, rfl, h1, h0, hk, hz, h⟩
def mMin3 : List V → Hp → VK → Prop := fun vs H Q => ∃ i j k, vs = [.int i, .int j, .int k] ∧ Q (.int (min (min i j) k)) H
theorem call_min3M {X : Cx} (hc : X.calm = true) : CallR X (.builtin "min") mMin3 := fun pins s σ H xs us Q I r ⟨i, j, k, e, q⟩ => call_min3Nu hc pins s σ H xs us Q I r ⟨_, _, _, _, e, by
  show (Option.map (fun c => if c = true then V.int j else V.int i) (some (decide (j < i)))).bind _ = _
  by_cases h : j < i
  · rw [decide_eq_true h]
    show Option.map (fun c => if c = true then V.int k else V.int j) (some (decide (k < j))) = some (.int (min (min i j) k))
    by_cases h2 : k < j
    · rw [decide_eq_true h2]
      show some (V.int k) = _
      congr 2
      omega
    · rw [decide_eq_false h2]
      show some (V.int j) = _
      congr 2
      omega
  · rw [decide_eq_false h]
    show Option.map (fun c => if c = true then V.int k else V.int i) (some (decide (k < i))) = some (.int (min (min i j) k))
    by_cases h2 : k < i
    · rw [decide_eq_true h2]
      show some (V.int k) = _
      congr 2
      omega
    · rw [decide_eq_false h2]
      show some (V.int i) = _
      congr 2
      omega, q⟩
/-! ### comprehensions whose elements are new tuples -/
def EltT (te : TE) (σ : L2.St) (H : Hp) (xs : List V) : Prop := ∀ H', Same H H' → te σ H' fun v H'' => Same H' H'' ∧ ∃ p, v = .ref p ∧ H'' p = some (.tup xs)
def NewTs (n : Nat) (f : Nat → List V) (H : Hp) (Q : VK) : Prop := ∀ (D : Addr) (H' : Hp) (ps : List Addr), H D = none → Same H H' → H' D = some (.lst (ps.map V.ref)) → ps.length = n → (∀ i p, ps[i]? = some p → H' p = some (.tup (f i))) → Q (.ref D) H'
@[irreducible] def mLcTR3 (ta : TA) (j : Nat) (te : TE) (vs : List Nat) : TE := fun σ H Q => ta σ H fun ws H1 => ∃ (lo hi c : Int) (n : Nat) (f : Nat → List V), ws = [.int lo, .int hi, .int c] ∧ RgC lo hi c n ∧ n ≤ 1000 ∧ (∀ i, i < n → EltT te ((wipe σ vs).set j (some (.int (lo + (i : Nat) * c)))) H1 (f i)) ∧ NewTs n f H1 Q
theorem rd_lcTR3 {ta : TA} {j : Nat} {te : TE} {vs : List Nat} {σ : L2.St} {H : Hp} {Q : VK} (h : ta σ H fun ws H1 => ∃ (lo hi c : Int) (n : Nat) (f : Nat → List V), ws = [.int lo, .int hi, .int c] ∧ RgC lo hi c n ∧ n ≤ 1000 ∧ (∀ i, i < n → EltT te ((wipe σ vs).set j (some (.int (lo + (i : Nat) * c)))) H1 (f i)) ∧ NewTs n f H1 Q) : mLcTR3 ta j te vs σ H Q := by
  unfold mLcTR3
  exact h
@[irreducible] def mLcTL (K : PySem.W.Frag) (tl : TE) (j : Nat) (te : TE) (vs : List Nat) : TE := fun σ H Q => tl σ H fun x H1 => ∃ (a : Addr) (xs : List V) (f : Nat → List V), x = .ref a ∧ SqL K H1 a xs ∧ xs.length ≤ 1000 ∧ (∀ i y, xs[i]? = some y → EltT te ((wipe σ vs).set j (some y)) H1 (f i)) ∧ NewTs xs.length f H1 Q
theorem rd_lcTL {K : PySem.W.Frag} {tl : TE} {j : Nat} {te : TE} {vs : List Nat} {σ : L2.St} {H : Hp} {Q : VK} (h : tl σ H fun x H1 => ∃ (a : Addr) (xs : List V) (f : Nat → List V), x = .ref a ∧ SqL K H1 a xs ∧ xs.length ≤ 1000 ∧ (∀ i y, xs[i]? = some y → EltT te ((wipe σ vs).set j (some y)) H1 (f i)) ∧ NewTs xs.length f H1 Q) : mLcTL K tl j te vs σ H Q := by
  unfold mLcTL
  exact h
def TsW (H1 : Hp) (D : Addr) (f : Nat → List V) (i : Nat) (H' : Hp) : Prop := Same H1 H' ∧ ∃ ps : List Addr, H' D = some (.lst (ps.map V.ref)) ∧ ps.length = i ∧ ∀ k p, ps[k]? = some p → H' p = some (.tup (f k))
theorem TsW.next {H1 H' H'' : Hp} {D p : Addr} {f : Nat → List V} {i : Nat} (hD : H1 D = none) (w : TsW H1 D f i H') (s : Same H' H'') (hp : H'' p = some (.tup (f i))) : ∃ acc, H'' D = some (.lst acc) ∧ acc.length = i ∧ TsW H1 D f (i + 1) (upd H'' D (.lst (acc ++ [.ref p]))) := by
  obtain ⟨sm, ps, hd, hl, ht⟩ := w
  have hd2 := s _ _ hd
  have ne : ∀ {q : Addr} {xs : List V}, H'' q = some (.tup xs) → q ≠ D := fun {q xs} h e => by
    rw [e, hd2] at h
    cases h
  refine ⟨_, hd2, by rw [List.length_map, hl], same_mut (sm.trans s) hD, ps ++ [p], ?_, by rw [List.length_append, List.length_singleton, hl], fun k q hk => ?_⟩
  · rw [upd_same, List.map_append]
    rfl
  · by_cases h : k < ps.length
    · rw [List.getElem?_append_left h] at hk
      have := s _ _ (ht k q hk)
      rw [upd_ne (ne this)]
      exact this
    · rw [List.getElem?_append_right (by omega)] at hk
      have h0 : k - ps.length = 0 := by
        cases e : k - ps.length with
        | zero => rfl
        | succ m => rw [e] at hk; simp at hk
      rw [h0] at hk
      have e : p = q := Option.some.inj hk
      have ek : k = i := by omega
      subst e
      rw [ek, upd_ne (ne hp)]
      exact hp
section
variable {X : Cx} {te : TE} {ta : TA} {pos : Pos}
theorem lcTR3_of {ta : TA} {j : Nat} {te : TE} {vs : List Nat} {σ : L2.St} {H : Hp} {Q : VK} (hj : vs = [j]) (q : mLcTR3 ta j te vs σ H Q) : tLc (iRng3 (cTA ta)) (gName j) tYes (cTE te) vs σ H Q := by
  unfold mLcTR3 at q
  refine ⟨_, q, fun ws H1 r => ?_⟩
  obtain ⟨lo, hi, c, n, f, rfl, hr, hn, he, hq⟩ := r
  refine ⟨lo, hi, c, n, rfl, hr, fun D hD => ?_⟩
  refine ⟨fun i m H' => m = n - i ∧ i ≤ n ∧ TsW H1 D f i H', ⟨n, rfl, Nat.zero_le _, same_upd hD, [], upd_same, rfl, fun k p h => by cases h⟩, ?_⟩
  rintro i m H' ⟨rfl, hi, w⟩
  by_cases hlt : i < n
  · refine .inr ⟨hlt, TsW H1 D f (i + 1), fun H2 w2 => ⟨n - (i + 1), by omega, rfl, hlt, w2⟩, fun x H2 y => ?_⟩
    obtain ⟨e, y⟩ := y
    subst e
    subst y
    refine ⟨wipe_set hj, _, he i hlt _ w.1, fun v H'' r => ?_⟩
    obtain ⟨s, p, rfl, hp⟩ := r
    obtain ⟨acc, h1, h2, h3⟩ := w.next hD s hp
    exact ⟨acc, h1, szl (by omega), h3⟩
  · have e : i = n := by omega
    subst e
    obtain ⟨sm, ps, hd, hl, ht⟩ := w
    exact .inl ⟨Nat.le_refl _, hq D H' ps hD sm hd hl ht⟩
theorem lcTL_of {K : PySem.W.Frag} {tl : TE} {j : Nat} {te : TE} {vs : List Nat} {σ : L2.St} {H : Hp} {Q : VK} (hj : vs = [j]) (q : mLcTL K tl j te vs σ H Q) : tLc (iList K (cTE tl)) (gName j) tYes (cTE te) vs σ H Q := by
  unfold mLcTL at q
  refine ⟨_, q, fun x H1 r => ?_⟩
  obtain ⟨a, xs, f, rfl, hx, hn, he, hq⟩ := r
  refine ⟨a, rfl, ⟨xs, hx⟩, fun D hD => ?_⟩
  refine lc_list (xs := xs) (fun i H' => TsW H1 D f i H') ⟨same_upd hD, [], upd_same, rfl, fun k p h => by cases h⟩ (fun i H' _ w => w.1.seq hx) (fun i y H' hi w => ⟨wipe_set hj, _, he i y hi H' w.1, fun v H'' r => ?_⟩) fun H' w => ?_
  · obtain ⟨s, p, rfl, hp⟩ := r
    obtain ⟨acc, h1, h2, h3⟩ := w.next hD s hp
    have hl : i < xs.length := (List.getElem?_eq_some_iff.mp hi).1
    exact ⟨acc, h1, szl (by omega), h3⟩
  · obtain ⟨sm, ps, hd, hl, ht⟩ := w
    exact hq D H' ps hD sm hd hl ht
theorem pe_lcTL {elt it : Expr} {scope : Scope} {j : Nat} {x : Str} {xpos : Pos} (hc : X.calm = true) (hN : X.N.Nodup) {tl : TE} (ha : PE X it tl) (ok : BlkOk X.N X.env.scope scope [(x, j)])
    (hgt : ∀ (s : Shared) (H : Hp) (C : Addr) (cl : List (Str × Addr)) (fp : List Addr), PG (X.blk s H scope (compEnvC scope cl C X.env) fp) (.Name x xpos) (gName j))
    (he : ∀ (s : Shared) (H : Hp) (C : Addr) (cl : List (Str × Addr)) (fp : List Addr), PE (X.blk s H scope (compEnvC scope cl C X.env) fp) elt te) (hs2 : ∀ y, foldedSetIterable it X.env y = pure y := by intro _; rfl) :
    PE X (.ListComp elt [⟨.Name x xpos, it, [], 0⟩] scope pos) (mLcTL X.K tl j te [j]) :=
  pe_weak (pe_lc hc hN (pi_list (pe_c ha)) ok hgt (fun _ _ _ _ _ => pts_nil) (fun s H C cl fp => pe_c (he s H C cl fp)) hs2) fun _ _ _ q => lcTL_of rfl q
theorem ps_setLcTL {i : Nat} {y : Str} {py spos : Pos} {elt it : Expr} {scope : Scope} {j : Nat} {x : Str} {xpos : Pos} {tl : TE} (hc : X.calm = true) (hN : X.N.Nodup) (hy : X.N[i]? = some y) (hyl : X.env.scope.names.lookup y = some .local)
    (hsw : swapsWith (.ListComp elt [⟨.Name x xpos, it, [], 0⟩] scope pos) (some (.Name y py)) spos.line X.env = pure true) (ha : PE X it tl) (ok : BlkOk X.N X.env.scope scope [(x, j)])
    (hgt : ∀ (s : Shared) (H : Hp) (C : Addr) (cl : List (Str × Addr)) (fp : List Addr), PG (X.blk s H scope (compEnvC scope cl C X.env) fp) (.Name x xpos) (gName j))
    (he : ∀ (s : Shared) (H : Hp) (C : Addr) (cl : List (Str × Addr)) (fp : List Addr), PE (X.blk s H scope (compEnvC scope cl C X.env) fp) elt te) (hs2 : ∀ y, foldedSetIterable it X.env y = pure y := by intro _; rfl) :
    PS X (.Assign [.Name y py] (.ListComp elt [⟨.Name x xpos, it, [], 0⟩] scope pos) spos) (tAsg (mLcTL X.K tl j te [j]) (gName i)) :=
  ps_weak (ps_setLc hc hN hy hyl hsw (pi_list (pe_c ha)) ok hgt (fun _ _ _ _ _ => pts_nil) (fun s H C cl fp => pe_c (he s H C cl fp)) hs2) fun _ _ _ q => lcTL_of rfl q
theorem ps_setLcTR3 {i : Nat} {y : Str} {py spos : Pos} {elt : Expr} {scope : Scope} {j : Nat} {x : Str} {a b c : Expr} {p p2 xpos : Pos} (hc : X.calm = true) (hN : X.N.Nodup) (hy : X.N[i]? = some y) (hyl : X.env.scope.names.lookup y = some .local)
    (hsw : swapsWith (.ListComp elt [⟨.Name x xpos, .Call (.Name "range" p) [a, b, c] [] p2, [], 0⟩] scope pos) (some (.Name y py)) spos.line X.env = pure true) (hg : Gl X "range") (hm : X.mg "range" = none) (ha : PA X [a, b, c] ta) (ok : BlkOk X.N X.env.scope scope [(x, j)])
    (hgt : ∀ (s : Shared) (H : Hp) (C : Addr) (cl : List (Str × Addr)) (fp : List Addr), PG (X.blk s H scope (compEnvC scope cl C X.env) fp) (.Name x xpos) (gName j))
    (he : ∀ (s : Shared) (H : Hp) (C : Addr) (cl : List (Str × Addr)) (fp : List Addr), PE (X.blk s H scope (compEnvC scope cl C X.env) fp) elt te)
    (hs : starEach [a, b, c] X.env = (false, eval a X.env) :: starEach [b, c] X.env := by rfl) (hpl : (backTo p2 (starEach [b, c] X.env)).any (·.1) = false := by rfl) (hs2 : ∀ y, foldedSetIterable (.Call (.Name "range" p) [a, b, c] [] p2) X.env y = pure y := by intro _; rfl) :
    PS X (.Assign [.Name y py] (.ListComp elt [⟨.Name x xpos, .Call (.Name "range" p) [a, b, c] [] p2, [], 0⟩] scope pos) spos) (tAsg (mLcTR3 ta j te [j]) (gName i)) :=
  ps_weak (ps_setLc hc hN hy hyl hsw (pi_range3 hg hm (pa_c ha) hs hpl) ok hgt (fun _ _ _ _ _ => pts_nil) (fun s H C cl fp => pe_c (he s H C cl fp)) hs2) fun _ _ _ q => lcTR3_of rfl q
end

/-! ### the same rules within a comprehension: the written part by its own name -/
section
variable {X : Cx} {K : PySem.W.Frag}
theorem ix_listK (h : X.K = K) : IxR X (mIxL K) := h ▸ ix_listM
theorem ix_tupK (h : X.K = K) : IxR X (mIxT K) := h ▸ ix_tupM
theorem call_lenK (h : X.K = K) : CallR X (.builtin "len") (mLen K) := h ▸ call_lenM
end

theorem br_nonI {x : Int} {A B : Prop} (h : B) : Br (decide (V.int x = V.non)) A B := br_f (fun e => by cases e) h
theorem br_nonR {x : Addr} {A B : Prop} (h : B) : Br (decide (V.ref x = V.non)) A B := br_f (fun e => by cases e) h
theorem br_nonN {A B : Prop} (h : A) : Br (decide (V.non = V.non)) A B := br_t rfl h
theorem dec_nonI {x : Int} : decide (V.int x = V.non) = false := decide_eq_false fun e => by cases e
theorem dec_nonR {x : Addr} : decide (V.ref x = V.non) = false := decide_eq_false fun e => by cases e

/-! ### if t: x = e, told once by what x holds behind it -/
@[irreducible] def IfSet (b : Bool) (te : TE) (i : Nat) (D : Ends) (σ : L2.St) (H : Hp) : Prop := ∃ P : V → Hp → Prop, (b = true → te σ H P) ∧ (b = false → ∃ v, σ.set i (some v) = σ ∧ P v H) ∧ ∀ v H', P v H' → D.nx (σ.set i (some v)) H'
theorem rd_ifSet {b : Bool} {te : TE} {i : Nat} {D : Ends} {σ : L2.St} {H : Hp} (P : V → Hp → Prop) (h1 : b = true → te σ H P) (h2 : b = false → ∃ v, σ.set i (some v) = σ ∧ P v H) (k : ∀ v H', P v H' → D.nx (σ.set i (some v)) H') : IfSet b te i D σ H := by
  unfold IfSet
  exact ⟨P, h1, h2, k⟩
def mIfSet (tt : TT) (te : TE) (i : Nat) : TS := fun D σ H => tt σ H fun b H1 => IfSet b te i D σ H1
theorem ps_ifSet {X : Cx} {i : Nat} {x : Str} {c e : Expr} {tt : TT} {te : TE} {pos pos2 pos' : Pos} (hc : PT X c tt) (hN : X.N.Nodup) (hi : X.N[i]? = some x) (hx : Loc X.env.scope x) (he : PE X e te) (hs : swapsWith e (some (.Name x pos')) pos2.line X.env = pure false := by rfl)
    (hf : X.fn x = true ∨ X.env.scope.names.lookup x = some .local := by first | exact .inl rfl | exact .inr rfl | assumption) : PS X (.If c [.Assign [.Name x pos'] e pos2] [] pos) (mIfSet tt te i) :=
  ps_weak (ps_if (pt_c hc) (pss_one (ps_set (i := i) hN hi hx (pe_c he) hs hf)) pss_nil) fun D σ H q => ⟨_, q, fun b H1 r => by
    unfold IfSet at r
    obtain ⟨P, h1, h2, k⟩ := r
    cases b with
    | true => exact iteT ⟨P, h1 rfl, fun v H' p => k v H' p⟩
    | false =>
      obtain ⟨v, e, p⟩ := h2 rfl
      refine iteF ?_
      have := k v H1 p
      rw [e] at this
      exact this⟩
section
variable {X : Cx}
/-- what stands in a list at a whole number, as the store in place reads it -/
theorem get_listM : PGet X (mIxL X.K) := fun pins s σ H x y vx vy Q inv rx ry h => by
  unfold mIxL at h
  obtain ⟨p, xs, k, z, rfl, rfl, hsq, hat, q⟩ := h
  cases rx
  obtain ⟨tk, rfl⟩ := ry
  obtain ⟨its, rel, plain, _⟩ := inv.list hsq
  obtain ⟨j, hj, hget, hn, hlo, hhi⟩ := atI_get hat
  obtain ⟨wv, hwv, relz⟩ := rel.get hget
  have hlen := rel.length
  have h63 := line63
  by_cases hk : 0 ≤ k
  · have ej : k.toNat = j := by
      rw [seqIndex_of hk hhi] at hj
      exact Option.some.inj hj
    exact wpAny_getItem_list plain.isList hk (by omega) (by rw [ej]; simpa using hwv) ⟨z, H, inv, relz, q⟩
  · have ej : (k + (its.toArray.size : Int)).toNat = j := by
      rw [seqIndex_neg (by omega) hlo] at hj
      rw [List.size_toArray, ← hlen]
      exact Option.some.inj hj
    exact wpAny_getItem_list_neg plain.isList (by omega) (by rw [List.size_toArray]; omega) (by omega) (by rw [ej]; simpa using hwv) ⟨z, H, inv, relz, q⟩
end
section
variable {X : Cx} {te : TE} {ta : TA} {pos : Pos}
/-- [(…) for x in range(n)] -/
@[irreducible] def mLcTR1 (ta : TA) (j : Nat) (te : TE) (vs : List Nat) : TE := fun σ H Q => ta σ H fun ws H1 => ∃ (n : Int) (f : Nat → List V), ws = [.int n] ∧ (-100000 ≤ n ∧ n ≤ 100000) ∧ (∀ i, i < n.toNat → EltT te ((wipe σ vs).set j (some (.int (i : Nat)))) H1 (f i)) ∧ NewTs n.toNat f H1 Q
theorem rd_lcTR1 {ta : TA} {j : Nat} {te : TE} {vs : List Nat} {σ : L2.St} {H : Hp} {Q : VK} (h : ta σ H fun ws H1 => ∃ (n : Int) (f : Nat → List V), ws = [.int n] ∧ (-100000 ≤ n ∧ n ≤ 100000) ∧ (∀ i, i < n.toNat → EltT te ((wipe σ vs).set j (some (.int (i : Nat)))) H1 (f i)) ∧ NewTs n.toNat f H1 Q) : mLcTR1 ta j te vs σ H Q := by
  unfold mLcTR1
  exact h
theorem lcTR1_of {ta : TA} {j : Nat} {te : TE} {vs : List Nat} {σ : L2.St} {H : Hp} {Q : VK} (hj : vs = [j]) (q : mLcTR1 ta j te vs σ H Q) : tLc (iRng1 (cTA ta)) (gName j) tYes (cTE te) vs σ H Q := by
  unfold mLcTR1 at q
  refine ⟨_, q, fun ws H1 r => ?_⟩
  obtain ⟨n, f, rfl, ⟨hn0, hn⟩, he, hq⟩ := r
  have big : (2 : Int) ^ 62 = 4611686018427387904 := by decide
  refine ⟨n, rfl, by omega, by omega, fun D hD => ?_⟩
  refine lc_range (lo := 0) (n := n.toNat) (fun i H' => TsW H1 D f i H') ⟨same_upd hD, [], upd_same, rfl, fun k p h => by cases h⟩ (fun i H' hi w => ⟨wipe_set hj, ?_⟩) fun H' w => ?_
  · show cTE te ((wipe σ vs).set j (some (.int (0 + (i : Int))))) H' _
    rw [Int.zero_add]
    refine ⟨_, he i hi H' w.1, fun v H'' r => ?_⟩
    obtain ⟨s, p, rfl, hp⟩ := r
    obtain ⟨acc, h1, h2, h3⟩ := w.next hD s hp
    exact ⟨acc, h1, szl (by omega), h3⟩
  · obtain ⟨sm, ps, hd, hl, ht⟩ := w
    exact hq D H' ps hD sm hd hl ht
theorem ps_setLcTR1 {i : Nat} {y : Str} {py spos : Pos} {elt : Expr} {scope : Scope} {j : Nat} {x : Str} {a : Expr} {p p2 xpos : Pos} (hc : X.calm = true) (hN : X.N.Nodup) (hy : X.N[i]? = some y) (hyl : X.env.scope.names.lookup y = some .local)
    (hsw : swapsWith (.ListComp elt [⟨.Name x xpos, .Call (.Name "range" p) [a] [] p2, [], 0⟩] scope pos) (some (.Name y py)) spos.line X.env = pure true) (hg : Gl X "range") (hm : X.mg "range" = none) (ha : PA X [a] ta) (ok : BlkOk X.N X.env.scope scope [(x, j)])
    (hgt : ∀ (s : Shared) (H : Hp) (C : Addr) (cl : List (Str × Addr)) (fp : List Addr), PG (X.blk s H scope (compEnvC scope cl C X.env) fp) (.Name x xpos) (gName j))
    (he : ∀ (s : Shared) (H : Hp) (C : Addr) (cl : List (Str × Addr)) (fp : List Addr), PE (X.blk s H scope (compEnvC scope cl C X.env) fp) elt te)
    (hs : starEach [a] X.env = [(false, eval a X.env)] := by rfl) (hs2 : ∀ y, foldedSetIterable (.Call (.Name "range" p) [a] [] p2) X.env y = pure y := by intro _; rfl) :
    PS X (.Assign [.Name y py] (.ListComp elt [⟨.Name x xpos, .Call (.Name "range" p) [a] [] p2, [], 0⟩] scope pos) spos) (tAsg (mLcTR1 ta j te [j]) (gName i)) :=
  ps_weak (ps_setLc hc hN hy hyl hsw (pi_range1 hg hm (pa_c ha) hs) ok hgt (fun _ _ _ _ _ => pts_nil) (fun s H C cl fp => pe_c (he s H C cl fp)) hs2) fun _ _ _ q => lcTR1_of rfl q
end
/-! ### a comprehension over any walk, its elements values, some left out -/
def IMono (wi' wi : TI) : Prop := ∀ (σ : L2.St) (H : Hp) (R R' : It → Hp → Prop), (∀ J H', R J H' → R' J H') → wi' σ H R → wi σ H R'
section
variable {K : PySem.W.Frag}
theorem im_zip {ta : TA} : IMono (iZip K ta) (iZip K (cTA ta)) := fun σ H R R' h q => ⟨_, q, fun v H' r => by
  obtain ⟨a, b, xs, ys, e, h1, h2, r⟩ := r
  exact ⟨a, b, xs, ys, e, h1, h2, h _ _ r⟩⟩
theorem im_enum {ta : TA} : IMono (iEnum K ta) (iEnum K (cTA ta)) := fun σ H R R' h q => ⟨_, q, fun v H' r => by
  obtain ⟨a, xs, e, h1, r⟩ := r
  exact ⟨a, xs, e, h1, h _ _ r⟩⟩
theorem im_list {tl : TE} : IMono (iList K tl) (iList K (cTE tl)) := fun σ H R R' h q => ⟨_, q, fun v H' r => by
  obtain ⟨a, e, h1, r⟩ := r
  exact ⟨a, e, h1, h _ _ r⟩⟩
theorem im_tup {tl : TE} : IMono (iTup K tl) (iTup K (cTE tl)) := fun σ H R R' h q => ⟨_, q, fun v H' r => by
  obtain ⟨a, e, h1, r⟩ := r
  exact ⟨a, e, h1, h _ _ r⟩⟩
theorem im_rng1 {ta : TA} : IMono (iRng1 ta) (iRng1 (cTA ta)) := fun σ H R R' h q => ⟨_, q, fun v H' r => by
  obtain ⟨j, e, h1, h2, r⟩ := r
  exact ⟨j, e, h1, h2, h _ _ r⟩⟩
theorem im_rng2 {ta : TA} : IMono (iRng2 ta) (iRng2 (cTA ta)) := fun σ H R R' h q => ⟨_, q, fun v H' r => by
  obtain ⟨i, j, e, h1, r⟩ := r
  exact ⟨i, j, e, h1, h _ _ r⟩⟩
end
/-- the new list at D behind i turns -/
structure LcP (H1 : Hp) (D : Addr) (keep : Nat → Bool) (f : Nat → V) (i : Nat) (H' : Hp) : Prop where
  sm : Same H1 H'
  at' : H' D = some (.lst (((List.range i).filter keep).map f))
def LcN (H1 : Hp) (D : Addr) (keep : Nat → Bool) (f : Nat → V) (i : Nat) (y : V) (H4 : Hp) : Prop := ∃ acc, H4 D = some (.lst acc) ∧ acc.length < sizeLine ∧ LcP H1 D keep f (i + 1) (upd H4 D (.lst (acc ++ [y])))
theorem LcP.put {H1 H' H4 : Hp} {D : Addr} {keep : Nat → Bool} {f : Nat → V} {i : Nat} {y : V} (p : LcP H1 D keep f i H') (hD : H1 D = none) (hi : i < 100000) (s : Same H' H4) (hk : keep i = true) (e : y = f i) : LcN H1 D keep f i y H4 := by
  refine ⟨_, s _ _ p.at', ?_, same_mut (p.sm.trans s) hD, ?_⟩
  · have h1 := List.length_filter_le keep (List.range i)
    rw [List.length_range] at h1
    rw [List.length_map]
    exact szl (by omega)
  · rw [upd_same, List.range_succ, List.filter_append, List.map_append, e]
    have e2 : [i].filter keep = [i] := by
      rw [List.filter_cons, if_pos hk]
      rfl
    rw [e2]
    rfl
theorem LcP.skip {H1 H' H4 : Hp} {D : Addr} {keep : Nat → Bool} {f : Nat → V} {i : Nat} (p : LcP H1 D keep f i H') (s : Same H' H4) (hk : keep i = false) : LcP H1 D keep f (i + 1) H4 := by
  refine ⟨p.sm.trans s, ?_⟩
  rw [s _ _ p.at', List.range_succ, List.filter_append]
  have e2 : [i].filter keep = [] := by
    rw [List.filter_cons, if_neg (by rw [hk]; decide)]
    rfl
  rw [e2, List.append_nil]
@[irreducible] def mLcP (wi : TI) (g : TG) (tt : TT) (te : TE) (vs : List Nat) : TE := fun σ H Q => wi σ H fun J H1 => ∃ (n : Nat) (G : Hp → Prop) (Y : Nat → Hp → V → Hp → Prop) (keep : Nat → Bool) (f : Nat → V), Walk J n G Y ∧ n ≤ 100000 ∧ (∀ H', Same H1 H' → G H') ∧
  (∀ D, H1 D = none → ∀ i x H' H'', i < n → LcP H1 D keep f i H' → Y i H' x H'' → g x (wipe σ vs) H'' fun σ2 H2 => wipe σ2 vs = wipe σ vs ∧ tt σ2 H2 fun b H3 => Br b (te σ2 H3 fun y H4 => LcN H1 D keep f i y H4) (LcP H1 D keep f (i + 1) H3)) ∧ NewO (.lst (((List.range n).filter keep).map f)) H1 Q
theorem rd_lcP {wi : TI} {g : TG} {tt : TT} {te : TE} {vs : List Nat} {σ : L2.St} {H : Hp} {Q : VK} (h : wi σ H fun J H1 => ∃ (n : Nat) (G : Hp → Prop) (Y : Nat → Hp → V → Hp → Prop) (keep : Nat → Bool) (f : Nat → V), Walk J n G Y ∧ n ≤ 100000 ∧ (∀ H', Same H1 H' → G H') ∧
  (∀ D, H1 D = none → ∀ i x H' H'', i < n → LcP H1 D keep f i H' → Y i H' x H'' → g x (wipe σ vs) H'' fun σ2 H2 => wipe σ2 vs = wipe σ vs ∧ tt σ2 H2 fun b H3 => Br b (te σ2 H3 fun y H4 => LcN H1 D keep f i y H4) (LcP H1 D keep f (i + 1) H3)) ∧ NewO (.lst (((List.range n).filter keep).map f)) H1 Q) : mLcP wi g tt te vs σ H Q := by
  unfold mLcP
  exact h
def cTG (g : TG) : TG := fun v σ H Q => ∃ R : L2.St → Hp → Prop, g v σ H R ∧ ∀ σ' H', R σ' H' → Q σ' H'
section
variable {X : Cx} {e tg : Expr} {ifs : List Expr} {g : TG} {tt : TT} {te : TE}
theorem pg_c (h : PG X tg g) : PG X tg (cTG g) := ⟨fun pins s σ H v u Q I r ⟨R, h1, h2⟩ => wpAny_mono (h.run pins s σ H v u R I r h1) (fun _ s1 ⟨σ1, H1, I1, q⟩ => ⟨σ1, H1, I1, h2 _ _ q⟩) fun _ _ z => z⟩
theorem pts_c (h : PTs X ifs tt) : PTs X ifs (cTT tt) := ⟨fun pins s σ H Q I ⟨R, h1, h2⟩ => wpAny_mono (h.run pins s σ H R I h1) (fun _ s1 ⟨H1, I1, q⟩ => ⟨H1, I1, h2 _ _ q⟩) fun _ _ z => z⟩
theorem lcP_of {wi wi' : TI} {vs : List Nat} {σ : L2.St} {H : Hp} {Q : VK} (hw : IMono wi' wi) (q : mLcP wi' g tt te vs σ H Q) : tLc wi (cTG g) (cTT tt) (cTE te) vs σ H Q := by
  unfold mLcP at q
  refine hw _ _ _ _ (fun J H1 r => ?_) q
  obtain ⟨n, G, Y, keep, f, w, hn, hG, ht, hq⟩ := r
  intro D hD
  refine lc_it w (LcP H1 D keep f) ⟨same_upd hD, upd_same⟩ (fun i H' _ p => hG H' p.sm) (fun i x H' H'' hi p y => ?_) fun H' p => hq D H' hD p.sm p.at'
  refine ⟨_, ht D hD i x H' H'' hi p y, fun σ2 H2 r => ⟨r.1, _, r.2, fun b H3 r => ?_⟩⟩
  cases b with
  | true => exact iteT ⟨_, (r.un : if true = true then _ else _), fun y H4 z => z⟩
  | false => exact iteF (r.un : if false = true then _ else _)
theorem pe_lcP {iter elt : Expr} {scope : Scope} {own : List (Str × Nat)} {pos : Pos} {wi wi' : TI} (vs : List Nat) (hw : IMono wi' wi) (hc : X.calm = true) (hN : X.N.Nodup) (hi : PI X tg iter wi) (ok : BlkOk X.N X.env.scope scope own)
    (hg : ∀ (s : Shared) (H : Hp) (C : Addr) (cl : List (Str × Addr)) (fp : List Addr), PG (X.blk s H scope (compEnvC scope cl C X.env) fp) tg g) (ht : ∀ (s : Shared) (H : Hp) (C : Addr) (cl : List (Str × Addr)) (fp : List Addr), PTs (X.blk s H scope (compEnvC scope cl C X.env) fp) ifs tt)
    (he : ∀ (s : Shared) (H : Hp) (C : Addr) (cl : List (Str × Addr)) (fp : List Addr), PE (X.blk s H scope (compEnvC scope cl C X.env) fp) elt te) (hvs : own.map (·.2) = vs := by rfl) (hs : ∀ x, foldedSetIterable iter X.env x = pure x := by intro _; rfl) :
    PE X (.ListComp elt [⟨tg, iter, ifs, 0⟩] scope pos) (mLcP wi' g tt te vs) :=
  pe_weak (pe_lc hc hN hi ok (fun s H C cl fp => pg_c (hg s H C cl fp)) (fun s H C cl fp => pts_c (ht s H C cl fp)) (fun s H C cl fp => pe_c (he s H C cl fp)) hs) fun _ _ _ q => by
    rw [hvs]
    exact lcP_of hw q
theorem ps_setLcP {i : Nat} {y : Str} {py : Pos} {iter elt : Expr} {scope : Scope} {own : List (Str × Nat)} {pos spos : Pos} {wi wi' : TI} (vs : List Nat) (hw : IMono wi' wi) (hc : X.calm = true) (hN : X.N.Nodup) (hy : X.N[i]? = some y) (hyl : X.env.scope.names.lookup y = some .local)
    (hsw : swapsWith (.ListComp elt [⟨tg, iter, ifs, 0⟩] scope pos) (some (.Name y py)) spos.line X.env = pure true) (hi : PI X tg iter wi) (ok : BlkOk X.N X.env.scope scope own)
    (hg : ∀ (s : Shared) (H : Hp) (C : Addr) (cl : List (Str × Addr)) (fp : List Addr), PG (X.blk s H scope (compEnvC scope cl C X.env) fp) tg g) (ht : ∀ (s : Shared) (H : Hp) (C : Addr) (cl : List (Str × Addr)) (fp : List Addr), PTs (X.blk s H scope (compEnvC scope cl C X.env) fp) ifs tt)
    (he : ∀ (s : Shared) (H : Hp) (C : Addr) (cl : List (Str × Addr)) (fp : List Addr), PE (X.blk s H scope (compEnvC scope cl C X.env) fp) elt te) (hvs : own.map (·.2) = vs := by rfl) (hs : ∀ x, foldedSetIterable iter X.env x = pure x := by intro _; rfl) :
    PS X (.Assign [.Name y py] (.ListComp elt [⟨tg, iter, ifs, 0⟩] scope pos) spos) (tAsg (mLcP wi' g tt te vs) (gName i)) :=
  ps_weak (ps_setLc hc hN hy hyl hsw hi ok (fun s H C cl fp => pg_c (hg s H C cl fp)) (fun s H C cl fp => pts_c (ht s H C cl fp)) (fun s H C cl fp => pe_c (he s H C cl fp)) hs) fun _ _ _ q => by
    rw [hvs]
    exact lcP_of hw q
end
theorem wipe2 {σ : L2.St} {i j : Nat} {x y : Option V} (h : i ≠ j) : wipe (((wipe σ [i, j]).set i x).set j y) [i, j] = wipe σ [i, j] := by
  show (((((σ.set j none).set i none).set i x).set j y).set j none).set i none = (σ.set j none).set i none
  have e : ∀ (z : Option V), ((σ.set j none).set i z).set j none = (σ.set j none).set i z := fun z => by rw [List.set_comm _ _ h, List.set_set]
  rw [List.set_set, List.set_set, e, List.set_set]
/-! ### slices; lists of whole numbers compared -/
theorem sIx_nn {n d : Nat} {k : Int} (h : 0 ≤ k) : HT.sIx n d (some k) = min k.toNat n := by
  show (if k < 0 then (k + (n : Int)).toNat else min k.toNat n) = _
  rw [if_neg (by omega)]
theorem sIx_neg {n d : Nat} {k : Int} (h : k < 0) : HT.sIx n d (some k) = (k + (n : Int)).toNat := by
  show (if k < 0 then (k + (n : Int)).toNat else min k.toNat n) = _
  rw [if_pos h]
theorem drop_min {α : Type} (xs : List α) (k : Nat) : xs.drop (min k xs.length) = xs.drop k := by
  by_cases h : k ≤ xs.length
  · rw [Nat.min_eq_left h]
  · rw [Nat.min_eq_right (by omega), List.drop_of_length_le (Nat.le_refl _), List.drop_of_length_le (by omega)]
theorem take_all {α : Type} (xs : List α) {k m : Nat} (h : xs.length ≤ k) (h2 : xs.length ≤ m) : xs.take k = xs.take m := by
  rw [List.take_of_length_le h, List.take_of_length_le h2]
theorem cutX_from {xs : List V} {k : Int} (h : 0 ≤ k) : cutV xs (some k) none = xs.drop k.toNat := by
  unfold cutV
  rw [HT.sIx_none, sIx_nn h, drop_min]
  refine List.take_of_length_le ?_
  rw [List.length_drop]
  omega
theorem cutX_to {xs : List V} {k : Int} (h : 0 ≤ k) : cutV xs none (some k) = xs.take k.toNat := by
  unfold cutV
  rw [HT.sIx_none, sIx_nn h, List.drop_zero, Nat.sub_zero]
  by_cases h2 : k.toNat ≤ xs.length
  · rw [Nat.min_eq_left h2]
  · exact take_all _ (by omega) (by omega)
theorem cutX_nn {xs : List V} {i j : Int} (h : 0 ≤ i) (h' : 0 ≤ j) : cutV xs (some i) (some j) = (xs.drop i.toNat).take (j.toNat - i.toNat) := by
  unfold cutV
  rw [sIx_nn h, sIx_nn h', drop_min]
  by_cases h2 : j.toNat ≤ xs.length
  · by_cases h3 : i.toNat ≤ xs.length
    · rw [Nat.min_eq_left h2, Nat.min_eq_left h3]
    · rw [List.drop_of_length_le (by omega), List.take_nil, List.take_nil]
  · refine take_all _ ?_ ?_ <;> (rw [List.length_drop]; omega)
theorem cutX_butLast {xs : List V} {i : Int} (h : 0 ≤ i) : cutV xs (some i) (some (-1)) = (xs.drop i.toNat).take (xs.length - 1 - i.toNat) := by
  unfold cutV
  rw [sIx_nn h, sIx_neg (by decide), drop_min]
  have e : (-1 + (xs.length : Int)).toNat = xs.length - 1 := by omega
  rw [e]
  by_cases h3 : i.toNat ≤ xs.length
  · rw [Nat.min_eq_left h3]
  · rw [List.drop_of_length_le (by omega), List.take_nil, List.take_nil]
theorem eqvAll_ints : ∀ ns ms : List Int, PyData.eqvAll (ns.map PyData.int) (ms.map PyData.int) = decide (ns = ms)
  | [], [] => rfl
  | [], _ :: _ => by
    rw [decide_eq_false (by intro e; cases e)]
    rfl
  | _ :: _, [] => by
    rw [decide_eq_false (by intro e; cases e)]
    rfl
  | a :: r, b :: s => by
    rw [List.map_cons, List.map_cons, PyData.eqvAll, eqvAll_ints r s, PyData.eqv]
    by_cases h : a = b
    · subst h
      simp
    · simp [h]
section
variable {K : PySem.W.Frag} {H : Hp} {Q : VK} {a b : Addr}
theorem rd_eqI {ns ms : List Int} (h1 : SqL K H a (ns.map V.int)) (h2 : SqL K H b (ms.map V.int)) (h : Q (.bl (decide (ns = ms))) H) : mEqD K (.ref a) (.ref b) H Q :=
  rd_eqA (n := 1) (m := 1) (.list (ns.map PyData.int)) (.list (ms.map PyData.int)) (dp_ints h1) (dp_ints h2) (sh_lst (sh_ints _)) (sh_lst (sh_ints _)) (by rw [PyData.eqv, eqvAll_ints]; exact h)
theorem rd_neI {ns ms : List Int} (h1 : SqL K H a (ns.map V.int)) (h2 : SqL K H b (ms.map V.int)) (h : Q (.bl (!decide (ns = ms))) H) : mNeD K (.ref a) (.ref b) H Q :=
  rd_neA (n := 1) (m := 1) (.list (ns.map PyData.int)) (.list (ms.map PyData.int)) (dp_ints h1) (dp_ints h2) (sh_lst (sh_ints _)) (sh_lst (sh_ints _)) (by rw [PyData.eqv, eqvAll_ints]; exact h)
end
theorem rd_yes {σ : L2.St} {H : Hp} {Q : Bool → Hp → Prop} (h : Q true H) : tYes σ H Q := h
theorem at_last {ns : List Int} (h : 0 < ns.length) : atI (ns.map V.int) (-1) = some (.int (ns.getD (ns.length - 1) 0)) := by
  have hne : ns ≠ [] := fun e => by
    rw [e] at h
    cases h
  obtain ⟨r, x, rfl⟩ : ∃ r x, ns = r ++ [x] := ⟨ns.dropLast, ns.getLast hne, (List.dropLast_concat_getLast hne).symm⟩
  rw [List.map_append]
  have e : (r ++ [x]).getD ((r ++ [x]).length - 1) 0 = x := by
    rw [List.length_append, List.length_singleton, Nat.add_sub_cancel, List.getD_eq_getElem?_getD, List.getElem?_append_right (Nat.le_refl _), Nat.sub_self]
    rfl
  rw [e]
  exact atI_last _ _
/-- the frame in another form -/
theorem frS {F : L2.St → Hp → Prop} {σ σ' : L2.St} {H : Hp} (e : σ' = σ) (h : F σ' H) : F σ H := e ▸ h
theorem br_xnonI {x : Int} {A B : Prop} (h : A) : Br (!decide (V.int x = V.non)) A B := br_nt (fun e => by cases e) h
theorem br_xnonR {x : Addr} {A B : Prop} (h : A) : Br (!decide (V.ref x = V.non)) A B := br_nt (fun e => by cases e) h
theorem br_xnonN {A B : Prop} (h : B) : Br (!decide (V.non = V.non)) A B := br_nf rfl h
theorem rd_listT {K : PySem.W.Frag} {a : Addr} {xs : List V} {H : Hp} {Q : VK} (h1 : SqT K H a xs) (h : NewO (.lst xs) H Q) : mListOf K [.ref a] H Q := by
  unfold mListOf
  exact ⟨a, xs, rfl, .inr h1, h⟩
/-- tuple(xs) of a list -/
@[irreducible] def mTupOf (K : PySem.W.Frag) : List V → Hp → VK → Prop := fun xs H Q => ∃ p ys, xs = [.ref p] ∧ SqL K H p ys ∧ NewO (.tup ys) H Q
theorem rd_tupOf {K : PySem.W.Frag} {a : Addr} {xs : List V} {H : Hp} {Q : VK} (h1 : SqL K H a xs) (h : NewO (.tup xs) H Q) : mTupOf K [.ref a] H Q := by
  unfold mTupOf
  exact ⟨a, xs, rfl, h1, h⟩
theorem call_tupOfM {X : Cx} : CallR X (.type "tuple") (mTupOf X.K) := fun pins s σ H xs us Q I r q => call_tuple_of pins s σ H xs us Q I r (by
  unfold mTupOf at q
  obtain ⟨a, ys, e1, h1, h⟩ := q
  exact ⟨a, ys, e1, .inl ⟨h1, h.go⟩⟩)
/-! ### own cells: objects that change, beside a world that only grows -/
structure Cells (H B : Hp) (l : List (Addr × HO)) : Prop where
  cell : ∀ a o, (a, o) ∈ l → H a = some o
  nd : (l.map Prod.fst).Nodup
  imm : Same B H
  dis : ∀ a o, (a, o) ∈ l → B a = none
structure Own (S B0 : Hp) (as : List Addr) (B : Hp) (l : List (Addr × HO)) (H : Hp) : Prop where
  c : Cells H B l
  kept : ∀ b o, b ∉ as → S b = some o → H b = some o
  own : ∀ a o, (a, o) ∈ l → a ∈ as ∨ S a = none
  grow : Same B0 B
  new : ∀ b, B0 b = none → B b ≠ none → S b = none
  there : ∀ a, a ∈ as → H a ≠ none
theorem mem_fst {l : List (Addr × HO)} {a : Addr} {o : HO} (h : (a, o) ∈ l) : a ∈ l.map Prod.fst := List.mem_map.mpr ⟨(a, o), h, rfl⟩
theorem fst_mem {l : List (Addr × HO)} {a : Addr} (h : a ∈ l.map Prod.fst) : ∃ o, (a, o) ∈ l := by
  obtain ⟨⟨a', o⟩, h2, rfl⟩ := List.mem_map.mp h
  exact ⟨o, h2⟩
theorem Cells.start {H B : Hp} {l : List (Addr × HO)} (c : Cells H B l) : Own H B (l.map Prod.fst) B l H :=
  ⟨c, fun _ _ _ h => h, fun _ _ h => .inl (mem_fst h), Same.refl _, fun _ h k => absurd h k, fun a h => by
    obtain ⟨o, h⟩ := fst_mem h
    rw [c.cell a o h]
    exact fun e => nomatch e⟩
theorem Own.mk0 {H : Hp} : Own H H [] H [] H := ⟨⟨fun _ _ h => (nomatch h), List.nodup_nil, Same.refl _, fun _ _ h => (nomatch h)⟩, fun _ _ _ h => h, fun _ _ h => (nomatch h), Same.refl _, fun _ h k => absurd h k, fun _ h => (nomatch h)⟩
section
variable {S B0 B H H' : Hp} {as : List Addr} {l : List (Addr × HO)} {p : Addr} {o : HO}
theorem Own.mem (w : Own S B0 as B l H) (h : (p, o) ∈ l) : H p = some o := w.c.cell p o h
theorem Own.imm (w : Own S B0 as B l H) : Same B H := w.c.imm
theorem Own.same (w : Own S B0 [] B l H) : Same S H := fun b o h => w.kept b o (fun z => nomatch z) h
theorem Own.frS (w : Own S B0 as B l H) (n : H p = none) : S p = none ∧ p ∉ as := by
  have h2 : p ∉ as := fun h => w.there p h n
  refine ⟨?_, h2⟩
  cases e : S p with
  | none => rfl
  | some u => rw [w.kept p u h2 e] at n; cases n
theorem Own.frB (w : Own S B0 as B l H) (n : H p = none) : B p = none := same_none w.imm n
theorem Own.more (w : Own S B0 as B l H) (s : Same H H') : Own S B0 as B l H' :=
  ⟨⟨fun a u h => s _ _ (w.c.cell a u h), w.c.nd, w.c.imm.trans s, w.c.dis⟩, fun b u hb h => s _ _ (w.kept b u hb h), w.own, w.grow, w.new, fun a h e => w.there a h (same_none s e)⟩
theorem Own.notin (w : Own S B0 as B l H) (n : H p = none) {u : HO} : (p, u) ∉ l := fun h => by
  rw [w.c.cell p u h] at n
  cases n
theorem Own.ro (w : Own S B0 as B l H) (n : H p = none) (s : Same H H') (e : H' p = some o) : ∃ B', Same B B' ∧ B' p = some o ∧ B p = none ∧ Own S B0 as B' l H' := by
  have nb := w.frB n
  refine ⟨upd B p o, same_upd nb, upd_same, nb, ⟨fun a u h => s _ _ (w.c.cell a u h), w.c.nd, fun b u h => ?_, fun a u h => ?_⟩, fun b u hb h => s _ _ (w.kept b u hb h), w.own, w.grow.trans (same_upd nb), fun b h k => ?_, fun a h e => w.there a h (same_none s e)⟩
  · by_cases hb : b = p
    · rw [hb, upd_same] at h
      rw [hb, e, h]
    · rw [upd_ne hb] at h
      exact s _ _ (w.c.imm _ _ h)
  · rw [upd_ne (fun z => w.notin n (z ▸ h))]
    exact w.c.dis a u h
  · by_cases hb : b = p
    · rw [hb]
      exact (w.frS n).1
    · rw [upd_ne hb] at k
      exact w.new b h k
theorem Own.add (w : Own S B0 as B l H) (n : H p = none) (s : Same H H') (e : H' p = some o) : Own S B0 as B ((p, o) :: l) H' :=
  ⟨⟨fun a u h => by
      rcases List.mem_cons.mp h with h | h
      · cases h
        exact e
      · exact s _ _ (w.c.cell a u h), List.nodup_cons.mpr ⟨fun h => by
      obtain ⟨u, h⟩ := fst_mem h
      exact w.notin n h, w.c.nd⟩, w.c.imm.trans s, fun a u h => by
      rcases List.mem_cons.mp h with h | h
      · cases h
        exact w.frB n
      · exact w.c.dis a u h⟩, fun b u hb h => s _ _ (w.kept b u hb h), fun a u h => by
      rcases List.mem_cons.mp h with h | h
      · cases h
        exact .inr (w.frS n).1
      · exact w.own a u h, w.grow, w.new, fun a h e => w.there a h (same_none s e)⟩
theorem Own.sub {l' : List (Addr × HO)} (w : Own S B0 as B l H) (h : ∀ c, c ∈ l' → c ∈ l) (nd : (l'.map Prod.fst).Nodup) : Own S B0 as B l' H :=
  ⟨⟨fun a u k => w.c.cell a u (h _ k), nd, w.c.imm, fun a u k => w.c.dis a u (h _ k)⟩, w.kept, fun a u k => w.own a u (h _ k), w.grow, w.new, w.there⟩
/-- a cell changes: a list of the cells as they stand, one of them another -/
theorem Own.chg {l' : List (Addr × HO)} (w : Own S B0 as B l H) {u : HO} (hm : (p, u) ∈ l) (hf : l'.map Prod.fst = l.map Prod.fst) (hc : ∀ a v, (a, v) ∈ l' → (a = p ∧ v = o) ∨ (a ≠ p ∧ (a, v) ∈ l)) : Own S B0 as B l' (upd H p o) := by
  have old : ∀ {a v}, (a, v) ∈ l' → ∃ v', (a, v') ∈ l := fun {a v} h => by
    have := mem_fst h
    rw [hf] at this
    exact fst_mem this
  refine ⟨⟨fun a v h => ?_, hf ▸ w.c.nd, fun b v h => ?_, fun a v h => ?_⟩, fun b v hb h => ?_, fun a v h => ?_, w.grow, w.new, fun a h => ?_⟩
  · rcases hc a v h with ⟨rfl, rfl⟩ | ⟨hn, h⟩
    · exact upd_same
    · rw [upd_ne hn]
      exact w.c.cell a v h
  · have hb : b ≠ p := fun e => by
      rw [e, w.c.dis p u hm] at h
      cases h
    rw [upd_ne hb]
    exact w.c.imm b v h
  · obtain ⟨v', h'⟩ := old h
    exact w.c.dis a v' h'
  · have hn : b ≠ p := fun e => by
      subst e
      rcases w.own b u hm with z | z
      · exact hb z
      · rw [z] at h
        cases h
    rw [upd_ne hn]
    exact w.kept b v hb h
  · obtain ⟨v', h'⟩ := old h
    exact w.own a v' h'
  · by_cases e : a = p
    · rw [e, upd_same]
      exact fun z => nomatch z
    · rw [upd_ne e]
      exact w.there a h
theorem nd_ne {a b : Addr} {x y : HO} {l : List (Addr × HO)} (nd : (((a, x) :: l).map Prod.fst).Nodup) (h : (b, y) ∈ l) : b ≠ a := fun e => by
  subst e
  exact (List.nodup_cons.mp nd).1 (mem_fst h)
/-- the i-th cell changes -/
theorem Own.set (w : Own S B0 as B l H) (i : Nat) {u : HO} (hi : l[i]? = some (p, u)) (o : HO) : Own S B0 as B (l.set i (p, o)) (upd H p o) := by
  have hm : (p, u) ∈ l := List.mem_of_getElem? hi
  have hil := (List.getElem?_eq_some_iff.mp hi).1
  refine w.chg hm ?_ fun a v h => ?_
  · apply List.ext_getElem?
    intro j
    rw [List.getElem?_map, List.getElem?_map, List.getElem?_set]
    by_cases e : i = j
    · subst e
      rw [if_pos rfl, if_pos hil, hi]
      rfl
    · rw [if_neg e]
  · obtain ⟨j, hj⟩ := List.getElem?_of_mem h
    rw [List.getElem?_set] at hj
    by_cases e : i = j
    · rw [if_pos e, if_pos hil] at hj
      cases hj
      exact .inl ⟨rfl, rfl⟩
    · rw [if_neg e] at hj
      refine .inr ⟨fun z => ?_, List.mem_of_getElem? hj⟩
      subst z
      have h1 : (l.map Prod.fst)[i]? = some a := by rw [List.getElem?_map, hi]; rfl
      have h2 : (l.map Prod.fst)[j]? = some a := by rw [List.getElem?_map, hj]; rfl
      have hil2 : i < (l.map Prod.fst).length := by rw [List.length_map]; exact hil
      exact e ((List.getElem?_inj hil2 w.c.nd).mp (h1.trans h2.symm))
/-- a callee that works on the first cells -/
theorem Own.call {lc lr l' : List (Addr × HO)} {B' : Hp} (w : Own S B0 as B (lc ++ lr) H) (w' : Own H B (lc.map Prod.fst) B' l' H') : Own S B0 as B' (l' ++ lr) H' := by
  have nd := w.c.nd
  rw [List.map_append] at nd
  have ndr := (List.nodup_append.mp nd)
  have hr : ∀ a o, (a, o) ∈ lr → a ∉ lc.map Prod.fst := fun a o h k => ndr.2.2 a k a (mem_fst h) rfl
  have hl : ∀ a o, (a, o) ∈ l' → a ∈ lc.map Prod.fst ∨ H a = none := w'.own
  refine ⟨⟨fun a o h => ?_, ?_, w'.c.imm, fun a o h => ?_⟩, fun b o hb h => ?_, fun a o h => ?_, w.grow.trans w'.grow, fun b h k => ?_, fun a h => ?_⟩
  · rcases List.mem_append.mp h with h | h
    · exact w'.c.cell a o h
    · exact w'.kept a o (hr a o h) (w.c.cell a o (List.mem_append_right _ h))
  · rw [List.map_append]
    refine List.nodup_append.mpr ⟨w'.c.nd, ndr.2.1, fun a h b k e => ?_⟩
    subst e
    obtain ⟨o, h⟩ := fst_mem h
    obtain ⟨o2, k⟩ := fst_mem k
    rcases hl a o h with z | z
    · exact hr a o2 k z
    · rw [w.c.cell a o2 (List.mem_append_right _ k)] at z
      cases z
  · rcases List.mem_append.mp h with h | h
    · exact w'.c.dis a o h
    · have hb := w.c.dis a o (List.mem_append_right _ h)
      cases e : B' a with
      | none => rfl
      | some u =>
        have := w'.new a hb (by rw [e]; exact fun z => nomatch z)
        rw [w.c.cell a o (List.mem_append_right _ h)] at this
        cases this
  · refine w'.kept b o (fun z => ?_) (w.kept b o hb h)
    obtain ⟨u, z⟩ := fst_mem z
    rcases w.own b u (List.mem_append_left _ z) with y | y
    · exact hb y
    · rw [y] at h
      cases h
  · rcases List.mem_append.mp h with h | h
    · rcases hl a o h with z | z
      · obtain ⟨u, z⟩ := fst_mem z
        exact w.own a u (List.mem_append_left _ z)
      · exact .inr (w.frS z).1
    · exact w.own a o (List.mem_append_right _ h)
  · cases e : B b with
    | none => exact (w.frS (w'.new b e k)).1
    | some u => exact w.new b h (by rw [e]; exact fun z => nomatch z)
  · intro e
    have ha := w.there a h
    cases e2 : H a with
    | none => exact ha e2
    | some u =>
      by_cases hc : a ∈ lc.map Prod.fst
      · exact w'.there a hc e
      · rw [w'.kept a u hc e2] at e
        cases e
theorem Own.call0 {lc l' : List (Addr × HO)} {B' : Hp} (w : Own S B0 as B lc H) (w' : Own H B (lc.map Prod.fst) B' l' H') : Own S B0 as B' l' H' := by
  have w2 : Own S B0 as B (lc ++ []) H := by rw [List.append_nil]; exact w
  have w3 := w2.call w'
  rw [List.append_nil] at w3
  exact w3
theorem Own.cellsL {lc lr : List (Addr × HO)} (w : Own S B0 as B (lc ++ lr) H) : Cells H B lc := by
  have nd := w.c.nd
  rw [List.map_append] at nd
  exact ⟨fun a o h => w.c.cell a o (List.mem_append_left _ h), (List.nodup_append.mp nd).1, w.c.imm, fun a o h => w.c.dis a o (List.mem_append_left _ h)⟩
/-- the first cell changes no more -/
theorem Own.ice (w : Own S B0 as B ((p, o) :: l) H) (n : S p = none) : ∃ B', Same B B' ∧ B' p = some o ∧ Own S B0 as B' l H := by
  have nb := w.c.dis p o (List.mem_cons_self ..)
  have nd := List.nodup_cons.mp w.c.nd
  refine ⟨upd B p o, same_upd nb, upd_same, ⟨fun a u h => w.c.cell a u (List.mem_cons_of_mem _ h), nd.2, fun b u h => ?_, fun a u h => ?_⟩, w.kept, fun a u h => w.own a u (List.mem_cons_of_mem _ h), w.grow.trans (same_upd nb), fun b h k => ?_, w.there⟩
  · by_cases hb : b = p
    · rw [hb, upd_same] at h
      rw [hb, w.c.cell p o (List.mem_cons_self ..), h]
    · rw [upd_ne hb] at h
      exact w.c.imm b u h
  · rw [upd_ne (fun z => nd.1 (by rw [← show a = p from z]; exact mem_fst h))]
    exact w.c.dis a u (List.mem_cons_of_mem _ h)
  · by_cases hb : b = p
    · rw [hb]
      exact n
    · rw [upd_ne hb] at k
      exact w.new b h k
end

/-! ### fields, methods, dicts, whiles: readings that stop the walk at what the heap holds -/
@[irreducible] def mGetF (C : Addr) (f : Str) (x : V) (H : Hp) (Q : VK) : Prop := ∃ a dx fs v, x = .ref a ∧ H a = some (.ins C dx fs) ∧ fs.lookup f = some v ∧ Q v H
@[irreducible] def mPutF (C : Addr) (f : Str) (x y : V) (H : Hp) (k : Hp → Prop) : Prop := ∃ a dx fs, x = .ref a ∧ H a = some (.ins C dx fs) ∧ fs.length < 1000 ∧ k (upd H a (.ins C dx (putF f y fs)))
@[irreducible] def mIns (C : Addr) (m : Str) (x : V) (H : Hp) (A : Prop) : Prop := ∃ a dx fs, x = .ref a ∧ H a = some (.ins C dx fs) ∧ fs.lookup m = none ∧ A
@[irreducible] def mDIn (x y : V) (H : Hp) (Q : VK) : Prop := ∃ a kvs k, x = .ref a ∧ y = kV k ∧ H a = some (.dK kvs) ∧ Q (.bl (valV kvs k).isSome) H
@[irreducible] def mDNotIn (x y : V) (H : Hp) (Q : VK) : Prop := ∃ a kvs k, x = .ref a ∧ y = kV k ∧ H a = some (.dK kvs) ∧ Q (.bl (!(valV kvs k).isSome)) H
@[irreducible] def mDGet (x y : V) (H : Hp) (Q : VK) : Prop := ∃ a kvs k v, x = .ref a ∧ y = kV k ∧ Rd H a (.dK kvs) ∧ valV kvs k = some v ∧ Q v H
@[irreducible] def mDPut (x y v : V) (H : Hp) (k : Hp → Prop) : Prop := ∃ a kvs key, x = .ref a ∧ y = kV key ∧ H a = some (.dK kvs) ∧ kvs.length < 1000000 ∧ k (upd H a (.dK (putK kvs key v)))
@[irreducible] def mDDel (x y : V) (H : Hp) (k : Hp → Prop) : Prop := ∃ a kvs key, x = .ref a ∧ y = kV key ∧ H a = some (.dK kvs) ∧ (valV kvs key).isSome = true ∧ k (upd H a (.dK (dropK kvs key)))
@[irreducible] def mPopAt (x i : V) (H : Hp) (Q : VK) : Prop := ∃ l xs k y, x = .ref l ∧ i = .int k ∧ H l = some (.lst xs) ∧ 0 ≤ k ∧ k < (xs.length : Int) ∧ k ≤ 1000000 ∧ xs[k.toNat]? = some y ∧ Q y (upd H l (.lst (xs.eraseIdx k.toNat)))
@[irreducible] def mInsert (x i y : V) (H : Hp) (Q : VK) : Prop := ∃ l xs k, x = .ref l ∧ i = .int k ∧ H l = some (.lst xs) ∧ xs.length < 1000000 ∧ 0 ≤ k ∧ k ≤ 1000000 ∧ Q .non (upd H l (.lst (xs.take k.toNat ++ [y] ++ xs.drop k.toNat)))
@[irreducible] def mTru (K : PySem.W.Frag) (x : V) (H : Hp) (Q : Bool → Hp → Prop) : Prop := ∃ k, TruV K x H k ∧ Q k H
def mFld (C : Addr) (ta : TE) (f : Str) : TE := fun σ H Q => ta σ H fun x H1 => mGetF C f x H1 Q
def mSFld (C : Addr) (ta tv : TE) (f : Str) : TS := fun D σ H => tv σ H fun y H1 => ta σ H1 fun x H2 => mPutF C f x y H2 fun H3 => D.nx σ H3
def mSFldAug (C : Addr) (ta tv : TE) (rd : R2) (f : Str) : TS := fun D σ H => ta σ H fun x H1 => mGetF C f x H1 fun v _ => tv σ H1 fun y H2 => rd v y H2 fun z H3 => mPutF C f x z H3 fun H4 => D.nx σ H4
def mMeth (C : Addr) (m : Str) (sp : Sp) (dvs : List V) (E : XK) (ta : TE) (t : TA) : TE := fun σ H Q => ta σ H fun x H1 => mIns C m x H1 (t σ H1 fun vs H2 => sp (x :: (vs ++ dvs)) H2 Q E)
def mDInE (ty td : TE) : TE := fun σ H Q => ty σ H fun y H1 => td σ H1 fun x H2 => mDIn x y H2 Q
def mDNotInE (ty td : TE) : TE := fun σ H Q => ty σ H fun y H1 => td σ H1 fun x H2 => mDNotIn x y H2 Q
def mDGetE (td ty : TE) : TE := fun σ H Q => td σ H fun x H1 => ty σ H1 fun y H2 => mDGet x y H2 Q
def mSDPut (td ty tv : TE) : TS := fun D σ H => tv σ H fun v H1 => td σ H1 fun x H2 => ty σ H2 fun y H3 => mDPut x y v H3 fun H4 => D.nx σ H4
def mSDDel (td ty : TE) : TS := fun D σ H => td σ H fun x H1 => ty σ H1 fun y H2 => mDDel x y H2 fun H3 => D.nx σ H3
def mPopE (to te : TE) : TE := fun σ H Q => to σ H fun x H1 => ∃ l xs, x = .ref l ∧ H1 l = some (.lst xs) ∧ te σ H1 fun y H2 => mPopAt x y H2 Q
def mInsE (to ti te : TE) : TE := fun σ H Q => to σ H fun x H1 => ∃ l xs, x = .ref l ∧ H1 l = some (.lst xs) ∧ ti σ H1 fun i H2 => te σ H2 fun y H3 => mInsert x i y H3 Q
def mTruth (K : PySem.W.Frag) (ta : TE) : TT := fun σ H Q => ta σ H fun x H1 => mTru K x H1 Q
@[irreducible] def mWhile (c : TT) (tb : TS) : TS := fun D σ H => ∃ (Pv : L2.St → Hp → Prop) (μ : L2.St → Hp → Nat), Pv σ H ∧ ∀ σ H, Pv σ H → c σ H fun b H1 => Br b (tb { D with nx := fun σ' H' => Pv σ' H' ∧ μ σ' H' < μ σ H, ct := fun σ' H' => Pv σ' H' ∧ μ σ' H' < μ σ H, bk := D.nx } σ H1) (D.nx σ H1)
theorem rd_while {c : TT} {tb : TS} {D : Ends} {σ : L2.St} {H : Hp} (Pv : L2.St → Hp → Prop) (μ : L2.St → Hp → Nat) (h0 : Pv σ H) (hs : ∀ σ H, Pv σ H → c σ H fun b H1 => Br b (tb { D with nx := fun σ' H' => Pv σ' H' ∧ μ σ' H' < μ σ H, ct := fun σ' H' => Pv σ' H' ∧ μ σ' H' < μ σ H, bk := D.nx } σ H1) (D.nx σ H1)) : mWhile c tb D σ H := by
  unfold mWhile
  exact ⟨Pv, μ, h0, hs⟩
section
variable {C a : Addr} {f m : Str} {H : Hp} {Q : VK} {dx : Addr} {fs : List (Str × V)} {v y : V} {kvs : List (Key × V)} {n : Int} {t : Str} {xs : List V}
theorem rd_getF (h : H a = some (.ins C dx fs)) (hl : fs.lookup f = some v) (q : Q v H) : mGetF C f (.ref a) H Q := by
  unfold mGetF
  exact ⟨a, dx, fs, v, rfl, h, hl, q⟩
theorem rd_putF {k : Hp → Prop} {fs' : List (Str × V)} (h : H a = some (.ins C dx fs)) (hz : fs.length < 1000) (e : putF f y fs = fs') (q : k (upd H a (.ins C dx fs'))) : mPutF C f (.ref a) y H k := by
  unfold mPutF
  exact ⟨a, dx, fs, rfl, h, hz, e ▸ q⟩
theorem rd_ins {A : Prop} (h : H a = some (.ins C dx fs)) (hl : fs.lookup m = none) (q : A) : mIns C m (.ref a) H A := by
  unfold mIns
  exact ⟨a, dx, fs, rfl, h, hl, q⟩
theorem rd_din (h : H a = some (.dK kvs)) (q : Q (.bl (valV kvs (.inl n)).isSome) H) : mDIn (.ref a) (.int n) H Q := by
  unfold mDIn
  exact ⟨a, kvs, .inl n, rfl, rfl, h, q⟩
theorem rd_dnotin (h : H a = some (.dK kvs)) (q : Q (.bl (!(valV kvs (.inl n)).isSome)) H) : mDNotIn (.ref a) (.int n) H Q := by
  unfold mDNotIn
  exact ⟨a, kvs, .inl n, rfl, rfl, h, q⟩
theorem rd_dget (h : H a = some (.dK kvs)) (e : valV kvs (.inl n) = some v) (q : Q v H) : mDGet (.ref a) (.int n) H Q := by
  unfold mDGet
  exact ⟨a, kvs, .inl n, v, rfl, rfl, .inl h, e, q⟩
theorem rd_dgetR (h : Rd H a (.dK kvs)) (e : valV kvs (.inl n) = some v) (q : Q v H) : mDGet (.ref a) (.int n) H Q := by
  unfold mDGet
  exact ⟨a, kvs, .inl n, v, rfl, rfl, h, e, q⟩
theorem rd_dgetS (h : H a = some (.dK kvs)) (e : valV kvs (.inr t) = some v) (q : Q v H) : mDGet (.ref a) (.str t) H Q := by
  unfold mDGet
  exact ⟨a, kvs, .inr t, v, rfl, rfl, .inl h, e, q⟩
theorem rd_dput {k : Hp → Prop} (h : H a = some (.dK kvs)) (hz : kvs.length < 1000000) (q : k (upd H a (.dK (putK kvs (.inl n) y)))) : mDPut (.ref a) (.int n) y H k := by
  unfold mDPut
  exact ⟨a, kvs, .inl n, rfl, rfl, h, hz, q⟩
theorem rd_dputS {k : Hp → Prop} (h : H a = some (.dK kvs)) (hz : kvs.length < 1000000) (q : k (upd H a (.dK (putK kvs (.inr t) y)))) : mDPut (.ref a) (.str t) y H k := by
  unfold mDPut
  exact ⟨a, kvs, .inr t, rfl, rfl, h, hz, q⟩
theorem rd_ddel {k : Hp → Prop} (h : H a = some (.dK kvs)) (e : (valV kvs (.inl n)).isSome = true) (q : k (upd H a (.dK (dropK kvs (.inl n))))) : mDDel (.ref a) (.int n) H k := by
  unfold mDDel
  exact ⟨a, kvs, .inl n, rfl, rfl, h, e, q⟩
theorem rd_pop0 {xs : List V} (h : H a = some (.lst (y :: xs))) (q : Q y (upd H a (.lst xs))) : mPopAt (.ref a) (.int 0) H Q := by
  unfold mPopAt
  exact ⟨a, y :: xs, 0, y, rfl, rfl, h, Int.le_refl 0, by rw [List.length_cons]; omega, by decide, rfl, q⟩
theorem rd_popAt (h : H a = some (.lst xs)) (h0 : 0 ≤ n) (h1 : n < (xs.length : Int)) (h2 : n ≤ 1000000) (e : xs[n.toNat]? = some y) (q : Q y (upd H a (.lst (xs.eraseIdx n.toNat)))) : mPopAt (.ref a) (.int n) H Q := by
  unfold mPopAt
  exact ⟨a, xs, n, y, rfl, rfl, h, h0, h1, h2, e, q⟩
theorem rd_insert (h : H a = some (.lst xs)) (hz : xs.length < 1000000) (h0 : 0 ≤ n) (h1 : n ≤ 1000000) (q : Q .non (upd H a (.lst (xs.take n.toNat ++ [y] ++ xs.drop n.toNat)))) : mInsert (.ref a) (.int n) y H Q := by
  unfold mInsert
  exact ⟨a, xs, n, rfl, rfl, h, hz, h0, h1, q⟩
theorem rd_truL {K : PySem.W.Frag} {R : Bool → Hp → Prop} (h : SqL K H a xs) (q : R (!xs.isEmpty) H) : mTru K (.ref a) H R := by
  unfold mTru
  exact ⟨_, .inl ⟨xs, h, rfl⟩, q⟩
theorem rd_truD {K : PySem.W.Frag} {R : Bool → Hp → Prop} (h : H a = some (.dK kvs)) (q : R (!kvs.isEmpty) H) : mTru K (.ref a) H R := by
  unfold mTru
  exact ⟨_, .inr (.inr ⟨kvs, h, rfl⟩), q⟩
theorem rd_truB {K : PySem.W.Frag} {R : Bool → Hp → Prop} {b : Bool} (q : R b H) : mTru K (.bl b) H R := by
  unfold mTru
  exact ⟨b, rfl, q⟩
end
section
variable {X : Cx} {e o value i c : Expr} {f m : Str} {pos pos' tpos apos cpos : Pos} {ta tv td ty te ti to : TE} {C : Addr}
theorem pe_fldM (he : PE X e ta) (c : Cls X.K C) (n : NoAttr X.K C f) (hb : attributeBase e f X.env (eval e X.env) = eval e X.env := by rfl) : PE X (.Attribute e f pos) (mFld C ta f) :=
  pe_weak (pe_fld (pe_c he) hb) fun σ H Q q => ⟨_, q, fun x H1 r => by
    unfold mGetF at r
    obtain ⟨a, dx, fs, v, e1, h, hl, r⟩ := r
    exact ⟨a, C, dx, fs, v, e1, h, c, n, hl, r⟩⟩
theorem ps_fldM (ha : PE X o ta) (hv : PE X value tv) (c : Cls X.K C) (n : NoAttr X.K C f) (hs : swapsWith value (some (.Attribute o f pos')) pos.line X.env = pure false := by rfl) : PS X (.Assign [.Attribute o f pos'] value pos) (mSFld C ta tv f) :=
  ps_weak (ps_fld (pe_c ha) (pe_c hv) hs) fun D σ H q => ⟨_, q, fun y H1 r => ⟨_, r, fun x H2 r => by
    unfold mPutF at r
    obtain ⟨a, dx, fs, e1, h, hz, r⟩ := r
    exact ⟨a, C, dx, fs, e1, h, c, n, hz, r⟩⟩⟩
theorem inop_c {op : Operator} {rd : R2} (h : InOp X op rd) : InOp X op (cR2 rd) := fun pins s σ H x y u v Q I rx ry ⟨R, h1, h2⟩ => thn (h pins s σ H x y u v R I rx ry h1) fun w s1 ⟨z, H1, I1, rz, q⟩ => ⟨z, H1, I1, rz, h2 _ _ q⟩
theorem ps_fldaugM {op : Operator} {rd : R2} (ha : PE X o ta) (hv : PE X value tv) (hop : InOp X op rd) (c : Cls X.K C) (n : NoAttr X.K C f) : PS X (.AugAssign (.Attribute o f tpos) op value pos) (mSFldAug C ta tv rd f) :=
  ps_weak (ps_fldaug (pe_c ha) (pe_c hv) (inop_c hop)) fun D σ H q => ⟨_, q, fun x H1 r => by
    unfold mGetF at r
    obtain ⟨a, dx, fs, v, e1, h, hl, r⟩ := r
    subst e1
    refine ⟨a, C, dx, fs, v, rfl, h, c, n, hl, _, r, fun y H2 r => ⟨_, r, fun z H3 r => ?_⟩⟩
    unfold mPutF at r
    obtain ⟨a', dx', fs', e1, h', hz, r⟩ := r
    cases e1
    exact ⟨dx', fs', h', hz, r⟩⟩
theorem pc_weak {op : CmpOp} {a b : Expr} {t t' : TE} (h : PC X op a b t) (w : ∀ σ H Q, t' σ H Q → t σ H Q) : PC X op a b t' := ⟨fun pins s σ H Q I q => h.run pins s σ H Q I (w σ H Q q)⟩
theorem pc_dinM (hu : X.A.units + 1 < cLine) (hi : PE X i ty) (ho : PE X o td) : PC X .In i o (mDInE ty td) :=
  pc_weak (pc_din hu (pe_c hi) (pe_c ho)) fun σ H Q q => ⟨_, q, fun y H1 r => ⟨_, r, fun x H2 r => by
    unfold mDIn at r
    obtain ⟨a, kvs, k, e1, e2, h, r⟩ := r
    exact ⟨a, _, e1, e2 ▸ DGet.k h, r⟩⟩⟩
theorem pc_dnotinM (hu : X.A.units + 1 < cLine) (hi : PE X i ty) (ho : PE X o td) : PC X .NotIn i o (mDNotInE ty td) :=
  pc_weak (pc_dnotin hu (pe_c hi) (pe_c ho)) fun σ H Q q => ⟨_, q, fun y H1 r => ⟨_, r, fun x H2 r => by
    unfold mDNotIn at r
    obtain ⟨a, kvs, k, e1, e2, h, r⟩ := r
    exact ⟨a, _, e1, e2 ▸ DGet.k h, r⟩⟩⟩
theorem pe_dgetM (hu : X.A.units + 1 < cLine) (ho : PE X o td) (hi : PE X i ty) (hs : NoSl i := by exact fun _ _ => rfl) : PE X (.Subscript o i pos) (mDGetE td ty) :=
  pe_weak (pe_dget hu (pe_c ho) (pe_c hi) hs) fun σ H Q q => ⟨_, q, fun x H1 r => ⟨_, r, fun y H2 r => by
    unfold mDGet at r
    obtain ⟨a, kvs, k, v, e1, e2, h, e, r⟩ := r
    exact ⟨a, v, e1, .inl ⟨kvs, k, h, e2, e.symm⟩, r⟩⟩⟩
theorem ps_dputM (hu : X.A.units + 1 < cLine) (ho : PE X o td) (hi : PE X i ty) (hv : PE X value tv) (hs : swapsWith value (some (.Subscript o i pos')) pos.line X.env = pure false := by rfl) : PS X (.Assign [.Subscript o i pos'] value pos) (mSDPut td ty tv) :=
  ps_weak (ps_dput hu (pe_c ho) (pe_c hi) (pe_c hv) hs) fun D σ H q => ⟨_, q, fun v H1 r => ⟨_, r, fun x H2 r => ⟨_, r, fun y H3 r => by
    unfold mDPut at r
    obtain ⟨a, kvs, k, e1, e2, h, hz, r⟩ := r
    exact ⟨a, _, e1, e2 ▸ DPut.k h (szl hz), r⟩⟩⟩⟩
theorem ps_ddelM (ho : PE X o td) (hi : PE X i ty) : PS X (.Delete [.Subscript o i tpos] pos) (mSDDel td ty) :=
  ps_weak (ps_ddel (pe_c ho) (pe_c hi)) fun D σ H q => ⟨_, q, fun x H1 r => ⟨_, r, fun y H2 r => by
    unfold mDDel at r
    obtain ⟨a, kvs, k, e1, e2, h, e, r⟩ := r
    exact ⟨a, kvs, k, e1, h, e2, e, r⟩⟩⟩
theorem pt_truthM (ha : PE X e ta) (he : ∀ whole, isTrue e X.env whole = (do let v ← whole; standAt e.pos; holding [v] (truthy v))) : PT X e (mTruth X.K ta) :=
  pt_weak (pt_truth (pe_c ha) he) fun σ H Q q => ⟨_, q, fun x H1 r => by
    unfold mTru at r
    exact r⟩
theorem ps_whileM {body : List Stmt} {tc : TT} {tb : TS} (hp : PassesOwn (model X.prog X.w) X.A X.env X.xe) (hc : PT X c tc) (hb : PSs X body tb) : PS X (.While c body [] pos) (mWhile tc tb) :=
  ps_weak (ps_while hp (pt_c hc) hb) fun D σ H q => by
    unfold mWhile at q
    obtain ⟨Pv, μ, h0, hs⟩ := q
    exact while_by Pv μ h0 (fun σ H p => ⟨_, hs σ H p, fun b H1 r => r.un⟩) fun σ H Q Q' h ⟨R, h1, h2⟩ => ⟨R, h1, fun b H1 r => h _ _ (h2 _ _ r)⟩
theorem pe_pop {o e : Expr} (ho : PE X o to) (he : PE X e te) (hbase : attributeBase o "pop" X.env (eval o X.env) = eval o X.env := by rfl)
    (hfew : ((backTo cpos (starEach [e] X.env)).all (fun x => !x.1) && (backToKw cpos (keywordEach [] X.env)).all (fun x => x.1.isSome)
      && decide ([e].length + ([] : List Keyword).length + (if ([] : List Keyword).isEmpty then 0 else 1) < 30)) = true := by rfl)
    (hline : (apos.endLine == cpos.line) = true := by rfl) (hs : starEach [e] X.env = (false, eval e X.env) :: starEach [] X.env := by rfl) (hplain : (backTo cpos (starEach [] X.env)).any (·.1) = false := by rfl) :
    PE X (.Call (.Attribute o "pop" apos) [e] [] cpos) (mPopE to te) :=
  pe_weak (pe_bm PySem.F.plainAttrs_list PySem.F.slot_list_pop PySem.F.type_list_pop mt_popAt (pe_c ho) (pa_cons (pe_c he) pa_nil hs) hbase hfew hline hs hplain) fun σ H Q q => by
    refine ⟨_, q, fun x H1 r => ?_⟩
    obtain ⟨l, xs, rfl, h, r⟩ := r
    refine ⟨Or.inl ⟨rfl, _, SqL.of h⟩, _, r, fun y H2 r2 => ?_⟩
    unfold mPopAt at r2
    obtain ⟨l2, ys, k, z, e2, e3, h2, h0, h1, hk, hy, q2⟩ := r2
    have big : (2 : Int) ^ 63 = 9223372036854775808 := by decide
    exact ⟨l2, ys, k, k.toNat, z, e2, congrArg (fun u => [u]) e3, h2, by omega, by omega, seqIndex_of h0 h1, hy, q2⟩
end
section
variable {X : Cx} {e o i : Expr} {m : Str} {apos cpos : Pos} {ta te ti to : TE} {C : Addr} {t : TA} {sp : Sp} {dvs : List V} {E : XK}
theorem meth_weak (h : PE X e (tMeth C m sp dvs E (cTE ta) t)) : PE X e (mMeth C m sp dvs E ta t) := pe_weak h fun σ H Q q => ⟨_, q, fun x H1 r => by
  unfold mIns at r
  exact r⟩
theorem pe_insert {o i e : Expr} (ho : PE X o to) (hi : PE X i ti) (he : PE X e te) (hbase : attributeBase o "insert" X.env (eval o X.env) = eval o X.env := by rfl)
    (hfew : ((backTo cpos (starEach [i, e] X.env)).all (fun x => !x.1) && (backToKw cpos (keywordEach [] X.env)).all (fun x => x.1.isSome)
      && decide ([i, e].length + ([] : List Keyword).length + (if ([] : List Keyword).isEmpty then 0 else 1) < 30)) = true := by rfl)
    (hline : (apos.endLine == cpos.line) = true := by rfl) (hs1 : starEach [e] X.env = (false, eval e X.env) :: starEach [] X.env := by rfl) (hs : starEach [i, e] X.env = (false, eval i X.env) :: starEach [e] X.env := by rfl) (hplain : (backTo cpos (starEach [e] X.env)).any (·.1) = false := by rfl) :
    PE X (.Call (.Attribute o "insert" apos) [i, e] [] cpos) (mInsE to ti te) :=
  pe_weak (pe_bm PySem.F.plainAttrs_list PySem.F.slot_list_insert PySem.F.type_list_insert mt_insert (pe_c ho) (pa_cons (pe_c hi) (pa_cons (pe_c he) pa_nil hs1) hs) hbase hfew hline hs hplain) fun σ H Q q => by
    refine ⟨_, q, fun x H1 r => ?_⟩
    obtain ⟨l, xs, rfl, h, r⟩ := r
    refine ⟨Or.inl ⟨rfl, _, SqL.of h⟩, _, r, fun y H2 r => ⟨_, r, fun z H3 r2 => ?_⟩⟩
    unfold mInsert at r2
    obtain ⟨l2, ys, k, e2, e3, h2, hz, h0, h1, q2⟩ := r2
    have big : (2 : Int) ^ 63 = 9223372036854775808 := by decide
    exact ⟨l2, ys, k, z, e2, congrArg (fun u => [u, z]) e3, h2, szl hz, h0, by omega, q2⟩
end
/-! ### an if whose ways meet again: told once by what holds behind it -/
def cTSs (t : TS) : TS := fun D σ H => ∃ P : L2.St → Hp → Prop, t { D with nx := P } σ H ∧ ∀ σ' H', P σ' H' → D.nx σ' H'
theorem pss_c {X : Cx} {sts : List Stmt} {t : TS} (h : PSs X sts t) : PSs X sts (cTSs t) := ⟨fun pins s σ H D I ⟨P, h1, h2⟩ => thn (h.run pins s σ H { D with nx := P } I h1) fun f s' q => by
  cases f with
  | next =>
    obtain ⟨σ', H', I', q⟩ := q
    exact ⟨σ', H', I', h2 _ _ q⟩
  | brk => exact q
  | cont => exact q
  | ret u => exact q⟩
@[irreducible] def IfJ (b : Bool) (t u : TS) (D : Ends) (σ : L2.St) (H : Hp) : Prop := ∃ P : L2.St → Hp → Prop, (b = true → t { D with nx := P } σ H) ∧ (b = false → u { D with nx := P } σ H) ∧ ∀ σ' H', P σ' H' → D.nx σ' H'
def mIfJ (c : TT) (t u : TS) : TS := fun D σ H => c σ H fun b H1 => IfJ b t u D σ H1
theorem rd_ifJ {b : Bool} {t u : TS} {D : Ends} {σ : L2.St} {H : Hp} (P : L2.St → Hp → Prop) (h1 : b = true → t { D with nx := P } σ H) (h2 : b = false → u { D with nx := P } σ H) (k : ∀ σ' H', P σ' H' → D.nx σ' H') : IfJ b t u D σ H := by
  unfold IfJ
  exact ⟨P, h1, h2, k⟩
theorem ps_ifJ {X : Cx} {c : Expr} {bs us : List Stmt} {pos : Pos} {tt : TT} {t u : TS} (hc : PT X c tt) (ha : PSs X bs t) (hb : PSs X us u) : PS X (.If c bs us pos) (mIfJ tt t u) :=
  ps_weak (ps_if (pt_c hc) (pss_c ha) (pss_c hb)) fun D σ H q => ⟨_, q, fun b H1 r => by
    unfold IfJ at r
    obtain ⟨P, h1, h2, k⟩ := r
    cases b with
    | true => exact iteT ⟨P, h1 rfl, k⟩
    | false => exact iteF ⟨P, h2 rfl, k⟩⟩
end My
namespace My
open PySem L2

section
open PySem.Spec PyProof.Rows
variable {prog : Program} {w : World} {A : Around} {E : Value → Shared → Prop} {s : Shared}
def bestA (b : Option (Int × Tok)) : Array Value := match b with | none => #[] | some p => #[Value.int p.1 p.2, Value.int p.1 p.2]
def bestO (b : Option (Int × Tok)) (c : Nat) : Obj := { cls := .type "list", dict := none, data := .seq (bestA b) c, slots := #[] }
def endsIn (o : Option Int) (dv v : Value) : Prop := match o with | none => v = dv | some m => ∃ t, v = Value.int m t
theorem kw_tree {id : String} {b : Builtin} {args : List Value} {kw : List (Str × Value)} {Q : Value → Shared → Prop} (hk : builtinKind id = none) (hp : plainId id = true) (hb : entryFor table id = some b) (ha : argsOk id ⟨args, kw⟩)
    (hc : wpAny (model prog w) A.in1 (b ⟨args, kw⟩) (fun fin s' => match fin with
      | .done f => (match (Except.ok f : Result) with | .ok (.ret v) => Q v s' | .ok _ => False | .error e => E e s')
      | .again d => d.quiet = true ∧ codeAny (model prog w) A d (fun r s' => match r with | .ok (.ret v) => Q v s' | .ok _ => False | .error e => E e s') s') E s) : wpAny (model prog w) A (call (.builtin id) args kw) Q E s := by
  refine wpAny_call (codeAny_call_builtin hp hb ?_)
  simp only [checkBuiltinCall, hk]
  cases hs : Manifest.signature? id with
  | none => exact wpAny_pure hc
  | some sig =>
    have h2 : Bind.checkArgs id sig ⟨args, kw⟩ = pure () := by simpa only [argsOk, hs] using ha
    show wpAny _ A.in1 (Bind.checkArgs id sig ⟨args, kw⟩) _ _ s
    rw [h2]
    exact wpAny_pure hc
end

section
open PySem.Spec PyProof.Rows
variable {prog : Program} {w : World} {A : Around} {R : Result → Shared → Prop} {I : Addr} {fp wr : List Addr} {G : Array GenState → Array GenState → Prop} {n : Nat} {P : Nat → Value → Prop} {St : Nat → Shared → Prop}
def mxTo (val : Nat → Int) : Nat → Option Int
  | 0 => none
  | i + 1 => some (match mxTo val i with | none => val i | some m => if val i > m then val i else m)
theorem mx_loop (W : WalksS prog w A.in1 I fp wr G n P St) (val : Nat → Int) (hv : ∀ i v, P i v → ∃ t, v = Value.int (val i) t) (S : Addr) (hSf : S ∉ fp) (dv : Value) :
    ∀ (k i : Nat) (s : Shared) (c : Nat) (b : Option (Int × Tok)), n - i = k → i ≤ n → St i s → b.map Prod.fst = mxTo val i → s.heap.get? S = some (bestO b c) →
      (∀ v s', Moved (S :: wr) G s s' → endsIn (mxTo val n) dv v → R (.ok (.ret v)) s') → codeAny (model prog w) A (.builtin "max.loop" ⟨[.ref I, .none, .ref S], [(Str.ofString "default", dv)]⟩) R s := by
  have nw : S ∉ wr := fun z => hSf (W.sub _ z)
  have up : ∀ b ∈ wr, b ∈ S :: wr := fun b z => .tail _ z
  have hN : (toString "max" ++ toString ".loop" : String) = "max.loop" := by decide
  have hne : ∀ {b : Addr}, b ∉ S :: wr → S ≠ b := fun z e => z (e ▸ .head _)
  intro k
  induction k with
  | zero =>
    intro i s c b hk hi st hb hS fin
    have en : i = n := by omega
    subst en
    refine codeAny_builtin F.entry_max_loop ?_
    rw [Around.under_plainId F.plain_max_loop _]
    show wpAny _ A.in1 (seqItems? (.ref S) >>= _) _ _ s
    refine wpAny_bind (wpAny_seqItems hS (show (bestO b c).data = .seq (bestA b) c from rfl) ?_)
    show wpAny _ A.in1 (tryCatch (pyNext (.ref I)) _ >>= _) _ _ s
    refine wpAny_bind (wpAny_tryCatch (W.done s _ _ st fun s' mv => ?_))
    have hS2 := mv.heap S _ nw hS
    cases b with
    | none =>
      refine wpAny_bind (m := rule _) (wpAny_rule (wpAny_pure (fin _ _ (mv.mono up) ?_)))
      rw [← hb]
      rfl
    | some p =>
      obtain ⟨m, t⟩ := p
      show wpAny _ A.in1 (updateSeq S (fun _ => #[]) >>= _) _ _ _
      refine wpAny_bind ?_
      refine wpAny_updateSeq (hz := by show 2 ≤ sizeLine; rw [sizeLine_eq]; decide) hS2 rfl (wpAny_bind (wpAny_letGo (wpAny_pure ?_)))
      refine fin (.int m t) _ ((mv.mono up).then_heap (tk := s'.toks) (Nat.le_refl _) fun b o z e => (Heap.get?_update_other _ _ (hne z)).trans e) ?_
      rw [← hb]
      exact ⟨t, rfl⟩
  | succ k ih =>
    intro i s c b hk hi st hb hS fin
    have hlt : i < n := by omega
    refine codeAny_builtin F.entry_max_loop ?_
    rw [Around.under_plainId F.plain_max_loop _]
    show wpAny _ A.in1 (seqItems? (.ref S) >>= _) _ _ s
    refine wpAny_bind (wpAny_seqItems hS (show (bestO b c).data = .seq (bestA b) c from rfl) ?_)
    show wpAny _ A.in1 (tryCatch (pyNext (.ref I)) _ >>= _) _ _ s
    refine wpAny_bind (wpAny_tryCatch (W.item i s _ _ hlt st fun v s' pv st' mv => ?_))
    obtain ⟨u, rfl⟩ := hv i v pv
    have hS2 := mv.heap S _ nw hS
    have stay : ∀ (h' : Heap) (tk : Nat), s'.toks ≤ tk → (∀ b, b ≠ S → h'.get? b = s'.heap.get? b) → St (i + 1) { s' with heap := h', toks := tk } := fun h' tk htk hh => W.frame _ s' _ _ st' htk fun b zb o e => (hh b fun z => hSf (z ▸ zb)).trans e
    cases b with
    | none =>
      show wpAny _ A.in1 (updateSeq S (fun _ => #[Value.int (val i) u, Value.int (val i) u]) >>= _) _ _ _
      refine wpAny_bind ?_
      refine wpAny_updateSeq hS2 rfl ?_
      rw [hN]
      refine wpAny_pure ⟨plainId_quiet F.plain_max_loop _, ih (i + 1) _ _ (some (val i, u)) (by omega) hlt (stay _ s'.toks (Nat.le_refl _) fun b z => Heap.get?_update_other _ _ (Ne.symm z)) ?_ (Heap.get?_update_self _ hS2 rfl) fun v' s'' mv' hv' => ?_⟩
      · show some (val i) = mxTo val (i + 1)
        unfold mxTo
        rw [← hb]
        rfl
      · exact fin v' s'' (Moved.trans W.gtrans ((mv.mono up).then_heap (tk := s'.toks) (Nat.le_refl _) fun b o z e => (Heap.get?_update_other _ _ (hne z)).trans e) mv') hv'
    | some p =>
      obtain ⟨m, t⟩ := p
      have eb : mxTo val (i + 1) = some (if val i > m then val i else m) := by
        have hb2 : some m = mxTo val i := hb
        show some (match mxTo val i with | none => val i | some m => if val i > m then val i else m) = _
        rw [← hb2]
      show wpAny _ A.in1 (tryCatch (holding [Value.int (val i) u, Value.int (val i) u] (richCompare .Gt (Value.int (val i) u) (Value.int m t) >>= _)) _ >>= _) _ _ _
      refine wpAny_bind (wpAny_tryCatch (wpAny_holding (wpAny_bind ((CmpOf.ints_gt (P := fun a v => ∃ t, v = Value.int (if a = 0 then val i else m) t) (fun j : Nat => if j = 0 then val i else m) fun _ _ z => z) 0 1 _ _ _ _ _ ⟨u, rfl⟩ ⟨t, rfl⟩ ?_))))
      refine wpAny_bind (wpAny_holding (wpAny_truthy_bool ?_))
      refine wpAny_bind (wpAny_letGo (wpAny_pure ?_))
      show wpAny _ _ (if decide (val i > m) = true then _ else _) _ _ _
      by_cases hc : val i > m
      · rw [decide_eq_true hc]
        simp only [if_true]
        refine wpAny_bind ?_
        refine wpAny_updateSeq (hz := by show 2 ≤ sizeLine; rw [sizeLine_eq]; decide) hS2 rfl (wpAny_bind (wpAny_letGo ?_))
        rw [hN]
        refine wpAny_pure ⟨plainId_quiet F.plain_max_loop _, ih (i + 1) _ _ (some (val i, u)) (by omega) hlt (stay _ s'.toks (Nat.le_refl _) fun b z => Heap.get?_update_other _ _ (Ne.symm z)) (by rw [eb, if_pos hc]; rfl) (Heap.get?_update_self _ hS2 rfl) fun v' s'' mv' hv' => ?_⟩
        exact fin v' s'' (Moved.trans W.gtrans ((mv.mono up).then_heap (tk := s'.toks) (Nat.le_refl _) fun b o z e => (Heap.get?_update_other _ _ (hne z)).trans e) mv') hv'
      · rw [decide_eq_false hc]
        simp only [Bool.false_eq_true, if_false]
        refine wpAny_bind (wpAny_letGo ?_)
        rw [hN]
        refine wpAny_pure ⟨plainId_quiet F.plain_max_loop _, ih (i + 1) _ _ (some (m, t)) (by omega) hlt st' (by rw [eb, if_neg hc]; rfl) hS2 fun v' s'' mv' hv' => ?_⟩
        exact fin v' s'' (Moved.trans W.gtrans (mv.mono up) mv') hv'
theorem mx_kw {A : Around} {E : Value → Shared → Prop} {s : Shared} {x dv : Value} {Q : Value → Shared → Prop}
    (h : wpAny (model prog w) A.in1 (pyIter x) (fun it s2 => ∃ I fp wr G n P St val, it = .ref I ∧ WalksS prog w A.in1 I fp wr G n P St ∧ St 0 s2 ∧ (∀ b ∈ fp, b < s2.heap.objs.size) ∧ (∀ i v, P i v → ∃ t, v = Value.int (val i) t) ∧
      ∀ v s', Moved wr G s2 s' → endsIn (mxTo val n) dv v → Q v s') E s) : wpAny (model prog w) A (call (.builtin "max") [x] [(Str.ofString "default", dv)]) Q E s := by
  have hN : (toString "max" ++ toString ".loop" : String) = "max.loop" := by decide
  refine kw_tree F.kind_max F.plain_max F.entry_max (by unfold argsOk; kernel_rfl) ?_
  show wpAny _ A.in1 (Builtin.Builtins.bindParams "max" ["key", "default"] 0 ⟨[], [(Str.ofString "default", dv)]⟩ >>= _) _ _ s
  refine wpAny_bind (wpAny_of_eq (show Builtin.Builtins.bindParams "max" ["key", "default"] 0 ⟨[], [(Str.ofString "default", dv)]⟩ = pure [none, some dv] from by kernel_rfl) ?_)
  refine wpAny_bind (wpAny_pure ?_)
  refine wpAny_bind (wpAny_mono h (fun it s2 h2 => ?_) fun _ _ e => e)
  obtain ⟨I, fp, wr, G, n, P, St, val, rfl, W, st, hfp, hval, fin⟩ := h2
  refine wpAny_bind (wpAny_newObj_type ?_)
  have hSf : s2.heap.objs.size ∉ fp := fun z => Nat.lt_irrefl _ (hfp _ z)
  rw [hN]
  refine wpAny_pure ⟨plainId_quiet F.plain_max_loop _, mx_loop W val hval s2.heap.objs.size hSf dv n 0 _ 0 none (Nat.sub_zero n) (Nat.zero_le _) (W.frame 0 s2 _ s2.toks st (Nat.le_refl _) fun b _ o e => Heap.get?_push_of_some _ e) rfl (Heap.get?_push_size _ rfl) fun v s' mv hv => ?_⟩
  exact fin v s' (Moved.drop_new (tk := s2.toks) mv (Nat.le_refl _)) hv
end

section
open PySem.Spec PyProof.Rows
variable {prog : Program} {w : World} {A : Around} {R : Result → Shared → Prop} {I : Addr} {fp wr : List Addr} {G : Array GenState → Array GenState → Prop} {n : Nat} {P : Nat → Value → Prop} {St : Nat → Shared → Prop}
def mnTo (val : Nat → Int) : Nat → Option Int
  | 0 => none
  | i + 1 => some (match mnTo val i with | none => val i | some m => if val i < m then val i else m)
theorem mn_loop (W : WalksS prog w A.in1 I fp wr G n P St) (val : Nat → Int) (hv : ∀ i v, P i v → ∃ t, v = Value.int (val i) t) (S : Addr) (hSf : S ∉ fp) (dv : Value) :
    ∀ (k i : Nat) (s : Shared) (c : Nat) (b : Option (Int × Tok)), n - i = k → i ≤ n → St i s → b.map Prod.fst = mnTo val i → s.heap.get? S = some (bestO b c) →
      (∀ v s', Moved (S :: wr) G s s' → endsIn (mnTo val n) dv v → R (.ok (.ret v)) s') → codeAny (model prog w) A (.builtin "min.loop" ⟨[.ref I, .none, .ref S], [(Str.ofString "default", dv)]⟩) R s := by
  have nw : S ∉ wr := fun z => hSf (W.sub _ z)
  have up : ∀ b ∈ wr, b ∈ S :: wr := fun b z => .tail _ z
  have hN : (toString "min" ++ toString ".loop" : String) = "min.loop" := by decide
  have hne : ∀ {b : Addr}, b ∉ S :: wr → S ≠ b := fun z e => z (e ▸ .head _)
  intro k
  induction k with
  | zero =>
    intro i s c b hk hi st hb hS fin
    have en : i = n := by omega
    subst en
    refine codeAny_builtin F.entry_min_loop ?_
    rw [Around.under_plainId F.plain_min_loop _]
    show wpAny _ A.in1 (seqItems? (.ref S) >>= _) _ _ s
    refine wpAny_bind (wpAny_seqItems hS (show (bestO b c).data = .seq (bestA b) c from rfl) ?_)
    show wpAny _ A.in1 (tryCatch (pyNext (.ref I)) _ >>= _) _ _ s
    refine wpAny_bind (wpAny_tryCatch (W.done s _ _ st fun s' mv => ?_))
    have hS2 := mv.heap S _ nw hS
    cases b with
    | none =>
      refine wpAny_bind (m := rule _) (wpAny_rule (wpAny_pure (fin _ _ (mv.mono up) ?_)))
      rw [← hb]
      rfl
    | some p =>
      obtain ⟨m, t⟩ := p
      show wpAny _ A.in1 (updateSeq S (fun _ => #[]) >>= _) _ _ _
      refine wpAny_bind ?_
      refine wpAny_updateSeq (hz := by show 2 ≤ sizeLine; rw [sizeLine_eq]; decide) hS2 rfl (wpAny_bind (wpAny_letGo (wpAny_pure ?_)))
      refine fin (.int m t) _ ((mv.mono up).then_heap (tk := s'.toks) (Nat.le_refl _) fun b o z e => (Heap.get?_update_other _ _ (hne z)).trans e) ?_
      rw [← hb]
      exact ⟨t, rfl⟩
  | succ k ih =>
    intro i s c b hk hi st hb hS fin
    have hlt : i < n := by omega
    refine codeAny_builtin F.entry_min_loop ?_
    rw [Around.under_plainId F.plain_min_loop _]
    show wpAny _ A.in1 (seqItems? (.ref S) >>= _) _ _ s
    refine wpAny_bind (wpAny_seqItems hS (show (bestO b c).data = .seq (bestA b) c from rfl) ?_)
    show wpAny _ A.in1 (tryCatch (pyNext (.ref I)) _ >>= _) _ _ s
    refine wpAny_bind (wpAny_tryCatch (W.item i s _ _ hlt st fun v s' pv st' mv => ?_))
    obtain ⟨u, rfl⟩ := hv i v pv
    have hS2 := mv.heap S _ nw hS
    have stay : ∀ (h' : Heap) (tk : Nat), s'.toks ≤ tk → (∀ b, b ≠ S → h'.get? b = s'.heap.get? b) → St (i + 1) { s' with heap := h', toks := tk } := fun h' tk htk hh => W.frame _ s' _ _ st' htk fun b zb o e => (hh b fun z => hSf (z ▸ zb)).trans e
    cases b with
    | none =>
      show wpAny _ A.in1 (updateSeq S (fun _ => #[Value.int (val i) u, Value.int (val i) u]) >>= _) _ _ _
      refine wpAny_bind ?_
      refine wpAny_updateSeq hS2 rfl ?_
      rw [hN]
      refine wpAny_pure ⟨plainId_quiet F.plain_min_loop _, ih (i + 1) _ _ (some (val i, u)) (by omega) hlt (stay _ s'.toks (Nat.le_refl _) fun b z => Heap.get?_update_other _ _ (Ne.symm z)) ?_ (Heap.get?_update_self _ hS2 rfl) fun v' s'' mv' hv' => ?_⟩
      · show some (val i) = mnTo val (i + 1)
        unfold mnTo
        rw [← hb]
        rfl
      · exact fin v' s'' (Moved.trans W.gtrans ((mv.mono up).then_heap (tk := s'.toks) (Nat.le_refl _) fun b o z e => (Heap.get?_update_other _ _ (hne z)).trans e) mv') hv'
    | some p =>
      obtain ⟨m, t⟩ := p
      have eb : mnTo val (i + 1) = some (if val i < m then val i else m) := by
        have hb2 : some m = mnTo val i := hb
        show some (match mnTo val i with | none => val i | some m => if val i < m then val i else m) = _
        rw [← hb2]
      show wpAny _ A.in1 (tryCatch (holding [Value.int (val i) u, Value.int (val i) u] (richCompare .Lt (Value.int (val i) u) (Value.int m t) >>= _)) _ >>= _) _ _ _
      refine wpAny_bind (wpAny_tryCatch (wpAny_holding (wpAny_bind ((CmpOf.ints_lt (P := fun a v => ∃ t, v = Value.int (if a = 0 then val i else m) t) (fun j : Nat => if j = 0 then val i else m) fun _ _ z => z) 0 1 _ _ _ _ _ ⟨u, rfl⟩ ⟨t, rfl⟩ ?_))))
      refine wpAny_bind (wpAny_holding (wpAny_truthy_bool ?_))
      refine wpAny_bind (wpAny_letGo (wpAny_pure ?_))
      show wpAny _ _ (if decide (val i < m) = true then _ else _) _ _ _
      by_cases hc : val i < m
      · rw [decide_eq_true hc]
        simp only [if_true]
        refine wpAny_bind ?_
        refine wpAny_updateSeq (hz := by show 2 ≤ sizeLine; rw [sizeLine_eq]; decide) hS2 rfl (wpAny_bind (wpAny_letGo ?_))
        rw [hN]
        refine wpAny_pure ⟨plainId_quiet F.plain_min_loop _, ih (i + 1) _ _ (some (val i, u)) (by omega) hlt (stay _ s'.toks (Nat.le_refl _) fun b z => Heap.get?_update_other _ _ (Ne.symm z)) (by rw [eb, if_pos hc]; rfl) (Heap.get?_update_self _ hS2 rfl) fun v' s'' mv' hv' => ?_⟩
        exact fin v' s'' (Moved.trans W.gtrans ((mv.mono up).then_heap (tk := s'.toks) (Nat.le_refl _) fun b o z e => (Heap.get?_update_other _ _ (hne z)).trans e) mv') hv'
      · rw [decide_eq_false hc]
        simp only [Bool.false_eq_true, if_false]
        refine wpAny_bind (wpAny_letGo ?_)
        rw [hN]
        refine wpAny_pure ⟨plainId_quiet F.plain_min_loop _, ih (i + 1) _ _ (some (m, t)) (by omega) hlt st' (by rw [eb, if_neg hc]; rfl) hS2 fun v' s'' mv' hv' => ?_⟩
        exact fin v' s'' (Moved.trans W.gtrans (mv.mono up) mv') hv'
theorem mn_kw {A : Around} {E : Value → Shared → Prop} {s : Shared} {x dv : Value} {Q : Value → Shared → Prop}
    (h : wpAny (model prog w) A.in1 (pyIter x) (fun it s2 => ∃ I fp wr G n P St val, it = .ref I ∧ WalksS prog w A.in1 I fp wr G n P St ∧ St 0 s2 ∧ (∀ b ∈ fp, b < s2.heap.objs.size) ∧ (∀ i v, P i v → ∃ t, v = Value.int (val i) t) ∧
      ∀ v s', Moved wr G s2 s' → endsIn (mnTo val n) dv v → Q v s') E s) : wpAny (model prog w) A (call (.builtin "min") [x] [(Str.ofString "default", dv)]) Q E s := by
  have hN : (toString "min" ++ toString ".loop" : String) = "min.loop" := by decide
  refine kw_tree F.kind_min F.plain_min F.entry_min (by unfold argsOk; kernel_rfl) ?_
  show wpAny _ A.in1 (Builtin.Builtins.bindParams "min" ["key", "default"] 0 ⟨[], [(Str.ofString "default", dv)]⟩ >>= _) _ _ s
  refine wpAny_bind (wpAny_of_eq (show Builtin.Builtins.bindParams "min" ["key", "default"] 0 ⟨[], [(Str.ofString "default", dv)]⟩ = pure [none, some dv] from by kernel_rfl) ?_)
  refine wpAny_bind (wpAny_pure ?_)
  refine wpAny_bind (wpAny_mono h (fun it s2 h2 => ?_) fun _ _ e => e)
  obtain ⟨I, fp, wr, G, n, P, St, val, rfl, W, st, hfp, hval, fin⟩ := h2
  refine wpAny_bind (wpAny_newObj_type ?_)
  have hSf : s2.heap.objs.size ∉ fp := fun z => Nat.lt_irrefl _ (hfp _ z)
  rw [hN]
  refine wpAny_pure ⟨plainId_quiet F.plain_min_loop _, mn_loop W val hval s2.heap.objs.size hSf dv n 0 _ 0 none (Nat.sub_zero n) (Nat.zero_le _) (W.frame 0 s2 _ s2.toks st (Nat.le_refl _) fun b _ o e => Heap.get?_push_of_some _ e) rfl (Heap.get?_push_size _ rfl) fun v s' mv hv => ?_⟩
  exact fin v s' (Moved.drop_new (tk := s2.toks) mv (Nat.le_refl _)) hv
end
theorem ints_nth {its : List Value} {ns : List Int} (h : PyProof.Rows.IntsAre its ns) : ∀ {i : Nat} {v : Value}, its[i]? = some v → ∃ t, v = Value.int (ns.getD i 0) t := by
  induction h with
  | nil => intro i v e; cases i <;> cases e
  | cons x t h ih =>
    intro i v e
    cases i with
    | zero =>
      cases e
      exact ⟨_, rfl⟩
    | succ i =>
      obtain ⟨t2, e2⟩ := ih e
      exact ⟨t2, e2⟩
theorem snocG {α : Type} {P : List α → Prop} (h0 : P []) (hs : ∀ l x, P l → P (l ++ [x])) (l : List α) : P l := by
  have key : ∀ m : List α, P m.reverse := by
    intro m
    induction m with
    | nil => exact h0
    | cons x r ih =>
      rw [List.reverse_cons]
      exact hs _ _ ih
  have := key l.reverse
  rwa [List.reverse_reverse] at this
section
open PySem.Spec PyProof.Rows
def mxL (d : Int) (ns : List Int) : Int := (mxTo (fun i => ns.getD i 0) ns.length).getD d
def mnL (d : Int) (ns : List Int) : Int := (mnTo (fun i => ns.getD i 0) ns.length).getD d
/-- the whole numbers that a walk over it gives -/
def IntsAt (K : PySem.W.Frag) (H : Hp) (a : Addr) (ns : List Int) : Prop := SqL K H a (ns.map V.int) ∨ ∃ kvs : List (Key × V), H a = some (.dK kvs) ∧ kvs.map Prod.fst = ns.map Sum.inl
@[irreducible] def mMaxD (K : PySem.W.Frag) : List V → List V → Hp → VK → Prop := fun vs zs H Q => ∃ (a : Addr) (ns : List Int) (d : Int), vs = [.ref a] ∧ zs = [.int d] ∧ IntsAt K H a ns ∧ Q (.int (mxL d ns)) H
@[irreducible] def mMinD (K : PySem.W.Frag) : List V → List V → Hp → VK → Prop := fun vs zs H Q => ∃ (a : Addr) (ns : List Int) (d : Int), vs = [.ref a] ∧ zs = [.int d] ∧ IntsAt K H a ns ∧ Q (.int (mnL d ns)) H
section
variable {K : PySem.W.Frag} {H : Hp} {Q : VK} {a : Addr} {ns : List Int} {d : Int}
theorem rd_maxD (h : IntsAt K H a ns) (q : Q (.int (mxL d ns)) H) : mMaxD K [.ref a] [.int d] H Q := by
  unfold mMaxD
  exact ⟨a, ns, d, rfl, rfl, h, q⟩
theorem rd_minD (h : IntsAt K H a ns) (q : Q (.int (mnL d ns)) H) : mMinD K [.ref a] [.int d] H Q := by
  unfold mMinD
  exact ⟨a, ns, d, rfl, rfl, h, q⟩
end
/-- such a walk, laid -/
theorem ints_walk {X : Cx} {pins : List (Addr × Obj)} {σ : L2.St} {H : Hp} {s : Shared} {a : Addr} {ns : List Int} {R : Value → Shared → Prop} {Er : Value → Shared → Prop} (hc : X.calm = true) (I : Inv X pins σ H s) (h : IntsAt X.K H a ns)
    (k : ∀ (J : Addr) (fp wr : List Addr) (n : Nat) (P : Nat → Value → Prop) (St : Nat → Shared → Prop) (s2 : Shared), n = ns.length → WalksS X.prog X.w X.A.in1 J fp wr (fun x y => y = x) n P St → St 0 s2 → (∀ b ∈ fp, b < s2.heap.objs.size) → (∀ i v, P i v → ∃ t, v = Value.int (ns.getD i 0) t) →
      (∀ s', Moved wr (fun x y => y = x) s2 s' → Inv X pins σ H s') → R (.ref J) s2) : wpAny (model X.prog X.w) X.A.in1 (pyIter (.ref a)) R Er s := by
  have hh : X.A.in1.handled = none := I.ok.hd hc
  -- the walk's own new object is all that moves
  have old : ∀ (o : Obj) (s' : Shared), Moved [s.heap.objs.size] (fun x y => y = x) { s with heap := s.heap.push o } s' → Inv X pins σ H s' := fun o s' mv => by
    obtain ⟨hp, gs, dr, tk, os⟩ := s'
    obtain ⟨h1, h2, h3, h4, h5⟩ := mv
    dsimp only at h1 h2 h3 h4 h5
    subst h2 h3 h4
    exact I.kept (t' := tk) fun b ob e => h1 b ob (fun z => by
      have := Heap.lt_size e
      rw [List.mem_singleton.mp z] at this
      exact Nat.lt_irrefl _ this) (Heap.get?_push_of_some _ e)
  rcases h with h | ⟨kvs, h, hk⟩
  · obtain ⟨its, rv, hl, _⟩ := I.list h
    have hI := rv.ints
    have ha : a < s.heap.objs.size := by
      obtain ⟨_, _, e, _⟩ := hl
      exact Heap.lt_size e
    have hlen : its.length = ns.length := hI.length
    refine wpAny_pyIter_list hl.isList ?_
    have W := (Walks.list (prog := X.prog) (w := X.w) (A := X.A.in1) hh s.heap.objs.size a (Nat.ne_of_lt ha) its.toArray).toS
    have en : its.toArray.size = ns.length := by
      rw [List.size_toArray]
      exact hlen
    refine k s.heap.objs.size _ _ _ _ _ _ en W ⟨⟨_, Heap.get?_push_size _ rfl, rfl, rfl⟩, hl.isList.push _⟩ (fun b hb => ?_) (fun i v e => ?_) (old _)
    · show b < (s.heap.push _).objs.size
      rw [Heap.size_push]
      rcases List.mem_cons.mp hb with z | z
      · exact z ▸ Nat.lt_succ_self _
      · exact List.mem_singleton.mp z ▸ Nat.lt_succ_of_lt ha
    · rw [List.getElem?_toArray] at e
      have hi : i < its.length := (List.getElem?_eq_some_iff.mp e).1
      obtain ⟨t, e2⟩ := ints_nth hI e
      exact ⟨t, e2⟩
  · obtain ⟨hz, hd, vs, rel, dd⟩ := dk_of I.hok h
    obtain ⟨es, ep, hr, hsz, hen⟩ := Heap.DictOf.raw dd
    have hkeys : vs.map Prod.fst = ns.map Sum.inl := rel.keys.symm.trans hk
    have hl : vs.length = ns.length := by
      have e := congrArg List.length hkeys
      rw [List.length_map, List.length_map] at e
      exact e
    have ha : a < s.heap.objs.size := by
      obtain ⟨o, e, _⟩ := id hr
      exact Heap.lt_size e
    refine wpAny_pyIter_dict_raw hd hr ?_
    have W := (Walks.rawKeys (prog := X.prog) (w := X.w) (A := X.A.in1) hh s.heap.objs.size a (Nat.ne_of_lt ha) es ep).toS
    refine k s.heap.objs.size _ _ _ _ _ _ (hsz.trans hl) W ⟨?_, ?_⟩ (fun b hb => ?_) (fun i v e => ?_) (old _)
    · exact ⟨_, Heap.get?_push_size _ rfl, rfl, rfl⟩
    · exact hr.at fun o e => Heap.get?_push_of_some _ e
    · show b < (s.heap.push _).objs.size
      rw [Heap.size_push]
      rcases List.mem_cons.mp hb with z | z
      · exact z ▸ Nat.lt_succ_self _
      · exact List.mem_singleton.mp z ▸ Nat.lt_succ_of_lt ha
    · obtain ⟨hi, rfl⟩ := e
      have hi2 : i < vs.length := by omega
      have hi3 : i < ns.length := by omega
      have h1 : (mixKind X.prog X.w).is vs[i].1 es[i].key = true := (hen i hi _ _ (List.getElem?_eq_getElem hi2)).1
      have e3 : vs[i].1 = Sum.inl ns[i] := by
        have z : (vs.map Prod.fst)[i]? = (ns.map (Sum.inl (β := Str)))[i]? := by rw [hkeys]
        rw [List.getElem?_map, List.getElem?_map, List.getElem?_eq_getElem hi2, List.getElem?_eq_getElem hi3] at z
        exact Option.some.inj z
      rw [e3] at h1
      obtain ⟨t, e4⟩ := relV_key (k := .inl ns[i]) h1
      refine ⟨t, ?_⟩
      rw [e4, List.getD_eq_getElem?_getD, List.getElem?_eq_getElem hi3]
      rfl
section
variable {X : Cx}
theorem cr_maxDf (hc : X.calm = true) : CallRK X (.builtin "max") [Str.ofString "default"] (mMaxD X.K) := by
  intro pins s σ H vs zs us ws Q I r rz h
  unfold mMaxD at h
  obtain ⟨a, ns, d, rfl, rfl, hn, q⟩ := h
  obtain rfl := Vals.ref1 r
  obtain ⟨w1, rfl, t1, e1⟩ := vals1 rz
  subst e1
  refine mx_kw (dv := .int d t1) (ints_walk hc I hn fun J fp wr n P St s2 en W st hfp hv hI => ⟨J, fp, wr, _, n, P, St, fun i => ns.getD i 0, rfl, W, st, hfp, hv, fun v s' mv hv' => ?_⟩)
  refine ⟨.int (mxL d ns), H, hI _ mv, ?_, q⟩
  unfold mxL
  unfold endsIn at hv'
  rw [en] at hv'
  split at hv'
  · rename_i e
    rw [e]
    exact ⟨t1, hv'⟩
  · rename_i m e
    rw [e]
    exact hv'
theorem cr_minDf (hc : X.calm = true) : CallRK X (.builtin "min") [Str.ofString "default"] (mMinD X.K) := by
  intro pins s σ H vs zs us ws Q I r rz h
  unfold mMinD at h
  obtain ⟨a, ns, d, rfl, rfl, hn, q⟩ := h
  obtain rfl := Vals.ref1 r
  obtain ⟨w1, rfl, t1, e1⟩ := vals1 rz
  subst e1
  refine mn_kw (dv := .int d t1) (ints_walk hc I hn fun J fp wr n P St s2 en W st hfp hv hI => ⟨J, fp, wr, _, n, P, St, fun i => ns.getD i 0, rfl, W, st, hfp, hv, fun v s' mv hv' => ?_⟩)
  refine ⟨.int (mnL d ns), H, hI _ mv, ?_, q⟩
  unfold mnL
  unfold endsIn at hv'
  rw [en] at hv'
  split at hv'
  · rename_i e
    rw [e]
    exact ⟨t1, hv'⟩
  · rename_i m e
    rw [e]
    exact hv'
end
theorem mxTo_ok (val : Nat → Int) : ∀ n : Nat, 0 < n → ∃ m, mxTo val n = some m ∧ (∃ i, i < n ∧ m = val i) ∧ ∀ i, i < n → val i ≤ m := by
  intro n
  induction n with
  | zero => exact fun h => absurd h (Nat.lt_irrefl _)
  | succ n ih =>
    intro _
    by_cases hn : 0 < n
    · obtain ⟨m, e, ⟨i, hi, ei⟩, hm⟩ := ih hn
      refine ⟨if val n > m then val n else m, ?_, ?_, fun j hj => ?_⟩
      · show some (match mxTo val n with | none => val n | some m => if val n > m then val n else m) = _
        rw [e]
      · split
        · exact ⟨n, by omega, rfl⟩
        · exact ⟨i, by omega, ei⟩
      · by_cases hjn : j < n
        · have := hm j hjn
          split <;> omega
        · have : j = n := by omega
          subst this
          split <;> omega
    · have : n = 0 := by omega
      subst this
      refine ⟨val 0, rfl, ⟨0, by omega, rfl⟩, fun j hj => ?_⟩
      obtain rfl : j = 0 := by omega
      exact Int.le_refl _
theorem mnTo_ok (val : Nat → Int) : ∀ n : Nat, 0 < n → ∃ m, mnTo val n = some m ∧ (∃ i, i < n ∧ m = val i) ∧ ∀ i, i < n → m ≤ val i := by
  intro n
  induction n with
  | zero => exact fun h => absurd h (Nat.lt_irrefl _)
  | succ n ih =>
    intro _
    by_cases hn : 0 < n
    · obtain ⟨m, e, ⟨i, hi, ei⟩, hm⟩ := ih hn
      refine ⟨if val n < m then val n else m, ?_, ?_, fun j hj => ?_⟩
      · show some (match mnTo val n with | none => val n | some m => if val n < m then val n else m) = _
        rw [e]
      · split
        · exact ⟨n, by omega, rfl⟩
        · exact ⟨i, by omega, ei⟩
      · by_cases hjn : j < n
        · have := hm j hjn
          split <;> omega
        · have : j = n := by omega
          subst this
          split <;> omega
    · have : n = 0 := by omega
      subst this
      refine ⟨val 0, rfl, ⟨0, by omega, rfl⟩, fun j hj => ?_⟩
      obtain rfl : j = 0 := by omega
      exact Int.le_refl _
theorem mxL_nil {d : Int} : mxL d [] = d := rfl
theorem mnL_nil {d : Int} : mnL d [] = d := rfl
theorem mxL_ok {d : Int} {ns : List Int} (h : ns ≠ []) : mxL d ns ∈ ns ∧ ∀ y ∈ ns, y ≤ mxL d ns := by
  obtain ⟨m, e, ⟨i, hi, ei⟩, hm⟩ := mxTo_ok (fun i => ns.getD i 0) ns.length (List.length_pos_iff.mpr h)
  unfold mxL
  rw [e]
  refine ⟨?_, fun y hy => ?_⟩
  · show m ∈ ns
    rw [ei]
    show ns.getD i 0 ∈ ns
    rw [List.getD_eq_getElem?_getD, List.getElem?_eq_getElem hi]
    exact List.getElem_mem hi
  · obtain ⟨j, hj, ej⟩ := List.mem_iff_getElem.mp hy
    have := hm j hj
    rw [List.getD_eq_getElem?_getD, List.getElem?_eq_getElem hj, Option.getD_some, ej] at this
    exact this
theorem mnL_ok {d : Int} {ns : List Int} (h : ns ≠ []) : mnL d ns ∈ ns ∧ ∀ y ∈ ns, mnL d ns ≤ y := by
  obtain ⟨m, e, ⟨i, hi, ei⟩, hm⟩ := mnTo_ok (fun i => ns.getD i 0) ns.length (List.length_pos_iff.mpr h)
  unfold mnL
  rw [e]
  refine ⟨?_, fun y hy => ?_⟩
  · show m ∈ ns
    rw [ei]
    show ns.getD i 0 ∈ ns
    rw [List.getD_eq_getElem?_getD, List.getElem?_eq_getElem hi]
    exact List.getElem_mem hi
  · obtain ⟨j, hj, ej⟩ := List.mem_iff_getElem.mp hy
    have := hm j hj
    rw [List.getD_eq_getElem?_getD, List.getElem?_eq_getElem hj, Option.getD_some, ej] at this
    exact this
end
/-! ### lists of a dict's keys; sorted; get and setdefault -/
section
open PySem.Spec PyProof.Rows
variable {X : Cx} {K : PySem.W.Frag} {H : Hp} {Q : VK} {a : Addr} {kvs : List (Key × V)} {ns : List Int} {n : Int} {z v : V}
@[irreducible] def mListD : List V → Hp → VK → Prop := fun xs H Q => ∃ (a : Addr) (kvs : List (Key × V)) (ns : List Int), xs = [.ref a] ∧ H a = some (.dK kvs) ∧ kvs.map Prod.fst = ns.map Sum.inl ∧ NewO (.lst (ns.map V.int)) H Q
theorem rd_listD (h : H a = some (.dK kvs)) (hk : kvs.map Prod.fst = ns.map Sum.inl) (q : NewO (.lst (ns.map V.int)) H Q) : mListD [.ref a] H Q := by
  unfold mListD
  exact ⟨a, kvs, ns, rfl, h, hk, q⟩
theorem keys_vals : ∀ {kvs : List (Key × V)} {ns : List Int}, kvs.map Prod.fst = ns.map Sum.inl → (kvs.map fun kv => kV kv.1) = ns.map V.int
  | [], [], _ => rfl
  | [], _ :: _, h => nomatch h
  | _ :: _, [], h => nomatch h
  | x :: r, n :: ns, h => by
    injection h with h1 h2
    rw [List.map_cons, List.map_cons, keys_vals h2, h1]
    rfl
theorem call_listDM (hc : X.calm = true) : CallR X (.type "list") mListD := fun pins s σ H xs us Q I r q => call_listD hc pins s σ H xs us Q I r (by
  unfold mListD at q
  obtain ⟨a, kvs, ns, e, h, hk, q⟩ := q
  refine ⟨a, kvs, e, .inl h, ?_⟩
  rw [keys_vals hk]
  exact q.go)
@[irreducible] def mSortD : List V → Hp → VK → Prop := fun xs H Q => ∃ (a : Addr) (kvs : List (Key × V)) (ns : List Int), xs = [.ref a] ∧ H a = some (.dK kvs) ∧ kvs.map Prod.fst = ns.map Sum.inl ∧ ns.length < 64 ∧ ∀ ys : List Int, ys.Perm ns → ys.Pairwise (· ≤ ·) → NewO (.lst (ys.map V.int)) H Q
theorem rd_sortD (h : H a = some (.dK kvs)) (hk : kvs.map Prod.fst = ns.map Sum.inl) (hl : ns.length < 64) (q : ∀ ys : List Int, ys.Perm ns → ys.Pairwise (· ≤ ·) → NewO (.lst (ys.map V.int)) H Q) : mSortD [.ref a] H Q := by
  unfold mSortD
  exact ⟨a, kvs, ns, rfl, h, hk, hl, q⟩
theorem call_sortDM (hc : X.calm = true) : CallR X (.builtin "sorted") mSortD := fun pins s σ H xs us Q I r q => call_sortedDI hc pins s σ H xs us Q I r (by
  unfold mSortD at q
  obtain ⟨a, kvs, ns, e, h, hk, hl, q⟩ := q
  exact ⟨a, kvs, ns, e, .inl h, hk, hl, fun ys p hp ho => (q ys hp ho).go p⟩)
@[irreducible] def mSortL (K : PySem.W.Frag) : List V → Hp → VK → Prop := fun xs H Q => ∃ (a : Addr) (ns : List Int), xs = [.ref a] ∧ SqL K H a (ns.map V.int) ∧ ns.length < 64 ∧ ∀ ys : List Int, ys.Perm ns → ys.Pairwise (· ≤ ·) → NewO (.lst (ys.map V.int)) H Q
theorem rd_sortL (h : SqL K H a (ns.map V.int)) (hl : ns.length < 64) (q : ∀ ys : List Int, ys.Perm ns → ys.Pairwise (· ≤ ·) → NewO (.lst (ys.map V.int)) H Q) : mSortL K [.ref a] H Q := by
  unfold mSortL
  exact ⟨a, ns, rfl, h, hl, q⟩
theorem call_sortLM : CallR X (.builtin "sorted") (mSortL X.K) := fun pins s σ H xs us Q I r q => cr_sorted pins s σ H xs us Q I r (by
  unfold mSortL at q
  obtain ⟨a, ns, e, h, hl, q⟩ := q
  exact ⟨a, ns, e, h, hl, fun ys p hp ho => (q ys hp ho).go p⟩)
@[irreducible] def mDGet2 (x y z : V) (H : Hp) (Q : VK) : Prop := ∃ a kvs k, x = .ref a ∧ y = kV k ∧ H a = some (.dK kvs) ∧ Q ((valV kvs k).getD z) H
theorem rd_dget2 (h : H a = some (.dK kvs)) (q : Q ((valV kvs (.inl n)).getD z) H) : mDGet2 (.ref a) (.int n) z H Q := by
  unfold mDGet2
  exact ⟨a, kvs, .inl n, rfl, rfl, h, q⟩
def mDGet2E (td ty tz : TE) : TE := fun σ H Q => td σ H fun x H1 => ∃ a kvs, x = .ref a ∧ H1 a = some (.dK kvs) ∧ ty σ H1 fun y H2 => tz σ H2 fun z H3 => mDGet2 x y z H3 Q
@[irreducible] def mDSetd (x y z : V) (H : Hp) (Q : VK) : Prop := ∃ a kvs k, x = .ref a ∧ y = kV k ∧ H a = some (.dK kvs) ∧ kvs.length < 1000000 ∧ (∀ v, valV kvs k = some v → Q v H) ∧ (valV kvs k = none → Q z (upd H a (.dK (putK kvs k z))))
theorem rd_dsetd (h : H a = some (.dK kvs)) (hl : kvs.length < 1000000) (q1 : ∀ v, valV kvs (.inl n) = some v → Q v H) (q2 : valV kvs (.inl n) = none → Q z (upd H a (.dK (putK kvs (.inl n) z)))) : mDSetd (.ref a) (.int n) z H Q := by
  unfold mDSetd
  exact ⟨a, kvs, .inl n, rfl, rfl, h, hl, q1, q2⟩
def mDSetdE (td ty tz : TE) : TE := fun σ H Q => td σ H fun x H1 => ∃ a kvs, x = .ref a ∧ H1 a = some (.dK kvs) ∧ ty σ H1 fun y H2 => tz σ H2 fun z H3 => mDSetd x y z H3 Q
theorem pe_dget2M {o e f : Expr} {td ty tz : TE} {apos cpos : Pos} (hu : X.A.units + 1 < cLine) (ho : PE X o td) (he : PE X e ty) (hf : PE X f tz) (hbase : attributeBase o "get" X.env (eval o X.env) = eval o X.env := by rfl)
    (hfew : ((backTo cpos (starEach [e, f] X.env)).all (fun x => !x.1) && (backToKw cpos (keywordEach [] X.env)).all (fun x => x.1.isSome) && decide (([e, f] : List Expr).length + ([] : List Keyword).length + (if ([] : List Keyword).isEmpty then 0 else 1) < 30)) = true := by rfl)
    (hline : (apos.endLine == cpos.line) = true := by rfl) (htr : backTo cpos (starEach [e, f] X.env) = [(false, eval e X.env), (false, eval f X.env)] := by rfl) : PE X (.Call (.Attribute o "get" apos) [e, f] [] cpos) (mDGet2E td ty tz) :=
  pe_weak (pe_dget2 hu (pe_c ho) (pe_c he) (pe_c hf) ⟨hbase, hfew, hline, htr⟩) fun σ H Q q => ⟨_, q, fun x H1 r => by
    obtain ⟨a, kvs, rfl, h, r⟩ := r
    refine ⟨a, rfl, .inl ⟨kvs, .inl h⟩, _, r, fun y H2 r => ⟨_, r, fun z H3 r => ?_⟩⟩
    unfold mDGet2 at r
    obtain ⟨a2, kvs2, k, e1, e2, h2, r⟩ := r
    cases e1
    exact ⟨_, e2 ▸ DGet.k h2, r⟩⟩
theorem pe_dsetdM {o e f : Expr} {td ty tz : TE} {apos cpos : Pos} (ho : PE X o td) (he : PE X e ty) (hf : PE X f tz) (hbase : attributeBase o "setdefault" X.env (eval o X.env) = eval o X.env := by rfl)
    (hfew : ((backTo cpos (starEach [e, f] X.env)).all (fun x => !x.1) && (backToKw cpos (keywordEach [] X.env)).all (fun x => x.1.isSome) && decide (([e, f] : List Expr).length + ([] : List Keyword).length + (if ([] : List Keyword).isEmpty then 0 else 1) < 30)) = true := by rfl)
    (hline : (apos.endLine == cpos.line) = true := by rfl) (htr : backTo cpos (starEach [e, f] X.env) = [(false, eval e X.env), (false, eval f X.env)] := by rfl) : PE X (.Call (.Attribute o "setdefault" apos) [e, f] [] cpos) (mDSetdE td ty tz) :=
  pe_weak (pe_dsetd (pe_c ho) (pe_c he) (pe_c hf) ⟨hbase, hfew, hline, htr⟩) fun σ H Q q => ⟨_, q, fun x H1 r => by
    obtain ⟨a, kvs, rfl, h, r⟩ := r
    refine ⟨a, rfl, .inl ⟨kvs, .inl h⟩, _, r, fun y H2 r => ⟨_, r, fun z H3 r => ?_⟩⟩
    unfold mDSetd at r
    obtain ⟨a2, kvs2, k, e1, e2, h2, hl, q1, q2⟩ := r
    cases e1
    exact ⟨kvs2, k, h2, e2, szl hl, q1, q2⟩⟩
/-! ### in, not in: lists of data -/
@[irreducible] def mInD (K : PySem.W.Frag) : R2 := rInD K
@[irreducible] def mNotInD (K : PySem.W.Frag) : R2 := rNotInD K
theorem hu65 {A : Around} {k : Nat} (r : Room k A) : A.units + 65 < cLine := by
  have := r.un
  omega
theorem op_inDM (hu : X.A.units + 65 < cLine) : OpR X (compareOp .In) (mInD X.K) := fun pins s σ H x y v u Q I rx ry q => op_inD hu pins s σ H x y v u Q I rx ry (by
  unfold mInD at q
  exact q)
theorem op_notInDM (hu : X.A.units + 65 < cLine) : OpR X (compareOp .NotIn) (mNotInD X.K) := fun pins s σ H x y v u Q I rx ry q => op_notInD hu pins s σ H x y v u Q I rx ry (by
  unfold mNotInD at q
  exact q)
theorem op_inDK (h : X.K = K) (hu : X.A.units + 65 < cLine) : OpR X (compareOp .In) (mInD K) := h ▸ op_inDM hu
theorem op_notInDK (h : X.K = K) (hu : X.A.units + 65 < cLine) : OpR X (compareOp .NotIn) (mNotInD K) := h ▸ op_notInDM hu
theorem rd_inD {x y : V} {m k : Nat} (d : PyData) (ds : List PyData) (h1 : Dp K H x d) (h2 : Dp K H y (.list ds)) (s1 : Sh m d) (s2 : ShA k ds) (q : Q (.bl (ds.any fun z => PyData.eqv z d)) H) (hm : m ≤ 64 := by decide) (hk : k + 1 ≤ 64 := by decide) : mInD K x y H Q := by
  unfold mInD
  exact ⟨d, ds, h1, h2, s1.shaped hm, (sh_lst s2).shaped hk, q⟩
theorem rd_notInD {x y : V} {m k : Nat} (d : PyData) (ds : List PyData) (h1 : Dp K H x d) (h2 : Dp K H y (.list ds)) (s1 : Sh m d) (s2 : ShA k ds) (q : Q (.bl (!ds.any fun z => PyData.eqv z d)) H) (hm : m ≤ 64 := by decide) (hk : k + 1 ≤ 64 := by decide) : mNotInD K x y H Q := by
  unfold mNotInD
  exact ⟨d, ds, h1, h2, s1.shaped hm, (sh_lst s2).shaped hk, q⟩
theorem any_ints (n : Int) : ∀ ns : List Int, ((ns.map PyData.int).any fun z => PyData.eqv z (.int n)) = decide (n ∈ ns)
  | [] => by simp
  | m :: r => by
    rw [List.map_cons, List.any_cons, any_ints n r, PyData.eqv]
    by_cases h : m = n
    · subst h
      simp
    · have h2 : ¬ n = m := fun e => h e.symm
      simp [h, h2]
theorem rd_inI (h : SqL K H a (ns.map V.int)) (q : Q (.bl (decide (n ∈ ns))) H) : mInD K (.int n) (.ref a) H Q :=
  rd_inD (m := 0) (k := 0) (.int n) (ns.map PyData.int) (.int n) (dp_ints h) sh_int (sh_ints ns) (by rw [any_ints]; exact q)
theorem rd_notInI (h : SqL K H a (ns.map V.int)) (q : Q (.bl (!decide (n ∈ ns))) H) : mNotInD K (.int n) (.ref a) H Q :=
  rd_notInD (m := 0) (k := 0) (.int n) (ns.map PyData.int) (.int n) (dp_ints h) sh_int (sh_ints ns) (by rw [any_ints]; exact q)
end
/-! ### for i, x in enumerate(xs) -/
@[irreducible] def mForE (K : PySem.W.Frag) (ta : TA) (i1 i2 : Nat) (tb : TS) : TS := fun D σ H => ta σ H fun ws H1 => ∃ (a : Addr) (xs : List V) (Pv : Nat → L2.St → Hp → Prop), ws = [.ref a] ∧ SqL K H1 a xs ∧ Pv 0 σ H1 ∧ (∀ i σ' H', i ≤ xs.length → Pv i σ' H' → SqL K H' a xs) ∧
  (∀ i x σ' H' H'', xs[i]? = some x → Pv i σ' H' → Same H' H'' → tb { D with nx := Pv (i + 1), ct := Pv (i + 1), bk := D.nx } ((σ'.set i1 (some (.int (i : Nat)))).set i2 (some x)) H'') ∧ ∀ σ' H', Pv xs.length σ' H' → D.nx σ' H'
theorem rd_forE {K : PySem.W.Frag} {ta : TA} {i1 i2 : Nat} {tb : TS} {D : Ends} {σ : L2.St} {H : Hp} (h : ta σ H fun ws H1 => ∃ (a : Addr) (xs : List V) (Pv : Nat → L2.St → Hp → Prop), ws = [.ref a] ∧ SqL K H1 a xs ∧ Pv 0 σ H1 ∧ (∀ i σ' H', i ≤ xs.length → Pv i σ' H' → SqL K H' a xs) ∧
  (∀ i x σ' H' H'', xs[i]? = some x → Pv i σ' H' → Same H' H'' → tb { D with nx := Pv (i + 1), ct := Pv (i + 1), bk := D.nx } ((σ'.set i1 (some (.int (i : Nat)))).set i2 (some x)) H'') ∧ ∀ σ' H', Pv xs.length σ' H' → D.nx σ' H') : mForE K ta i1 i2 tb D σ H := by
  unfold mForE
  exact h
theorem ps_forE {X : Cx} {ta : TA} {pos : Pos} {e : Expr} {kk : Nat} {p p2 tpos : Pos} {i1 i2 : Nat} {body : List Stmt} {tb : TS} {t1 t2 : Expr} (hp : PassesOwn (model X.prog X.w) X.A X.env X.xe) (hc : X.calm = true) (hg : Gl X "enumerate") (hm : X.mg "enumerate" = none) (ha : PA X [e] ta)
    (hgt : PG X (.Tuple [t1, t2] kk tpos) (gTup X.K 2 (gCons (gName i1) (gCons (gName i2) gNil)))) (hb : PSs X body tb)
    (hs : starEach [e] X.env = [(false, eval e X.env)] := by rfl) (hs2 : ∀ y, foldedSetIterable (.Call (.Name "enumerate" p) [e] [] p2) X.env y = pure y := by intro _; rfl) :
    PS X (.For (.Tuple [t1, t2] kk tpos) (.Call (.Name "enumerate" p) [e] [] p2) body [] pos) (mForE X.K ta i1 i2 tb) :=
  ps_weak (ps_for hp hc (pi_enum hg hm (pa_c ha) hs) hgt hb hs2) fun D σ H q => by
    unfold mForE at q
    refine ⟨_, q, fun ws H1 r => ?_⟩
    obtain ⟨a, xs, Pv, rfl, hx, h0, hq, hs, hd⟩ := r
    refine ⟨a, xs, rfl, hx, ?_⟩
    refine for_it (walk_enum (K := X.K) (a := a) (xs := xs)) Pv h0 hq (fun i x σ' H' H'' hi p y => ?_) hd
    obtain ⟨T, u, v, rfl, hT, rfl, e1, e2⟩ := y
    cases e1
    exact ⟨T, [.int (i : Nat), v], rfl, st_of upd_same, rfl, .int (i : Nat), [v], rfl, v, [], rfl, rfl, hs i v σ' H' _ e2 p (same_upd hT)⟩
/-! ### [e for k in d if t], d a local's dict -/
section
variable {X : Cx} {K : PySem.W.Frag}
theorem im_keys {td : TE} : IMono (iKeys td) (iKeys (cTE td)) := fun σ H R R' h q => ⟨_, q, fun v H' r => by
  obtain ⟨d, o, e, r⟩ := r
  refine ⟨d, o, e, ?_⟩
  rcases r with ⟨kvs, h1, r⟩ | ⟨kvs, h1, r⟩
  · exact .inl ⟨kvs, h1, h _ _ r⟩
  · exact .inr ⟨kvs, h1, h _ _ r⟩⟩
@[irreducible] def mLcK (i j : Nat) (tt : TT) (te : TE) : TE := fun σ H Q => ∃ (d : Addr) (kvs : List (Key × V)) (ns : List Int) (keep : Int → Bool) (f : Int → V), σ[i]? = some (some (.ref d)) ∧ H d = some (.dK kvs) ∧ kvs.map Prod.fst = ns.map Sum.inl ∧ ns.length ≤ 100000 ∧
  (∀ n, n ∈ ns → ∀ H', (∀ b o, b ≠ d → H b = some o → H' b = some o) → tt ((wipe σ [j]).set j (some (.int n))) H' fun b H2 => Same H' H2 ∧ b = keep n ∧ (b = true → te ((wipe σ [j]).set j (some (.int n))) H2 fun v H3 => Same H2 H3 ∧ v = f n)) ∧ NewO (.lst ((ns.filter keep).map f)) H Q
theorem rd_lcK {i j : Nat} {tt : TT} {te : TE} {σ : L2.St} {H : Hp} {Q : VK} (d : Addr) (kvs : List (Key × V)) (ns : List Int) (keep : Int → Bool) (f : Int → V) (h1 : σ[i]? = some (some (.ref d))) (h2 : H d = some (.dK kvs)) (h3 : kvs.map Prod.fst = ns.map Sum.inl) (h4 : ns.length ≤ 100000)
    (h5 : ∀ n, n ∈ ns → ∀ H', (∀ b o, b ≠ d → H b = some o → H' b = some o) → tt ((wipe σ [j]).set j (some (.int n))) H' fun b H2 => Same H' H2 ∧ b = keep n ∧ (b = true → te ((wipe σ [j]).set j (some (.int n))) H2 fun v H3 => Same H2 H3 ∧ v = f n))
    (q : NewO (.lst ((ns.filter keep).map f)) H Q) : mLcK i j tt te σ H Q := by
  unfold mLcK
  exact ⟨d, kvs, ns, keep, f, h1, h2, h3, h4, h5, q⟩
theorem filter_idx {α β : Type} (keep : α → Bool) (f : α → β) (d : α) : ∀ l : List α, ((List.range l.length).filter fun i => keep (l.getD i d)).map (fun i => f (l.getD i d)) = (l.filter keep).map f := by
  refine snocG ?_ ?_
  · rfl
  · intro l x ih
    rw [List.length_append, List.length_singleton, List.range_succ, List.filter_append, List.map_append, List.filter_append, List.map_append, ← ih]
    have hx : (l ++ [x]).getD l.length d = x := by
      rw [List.getD_eq_getElem?_getD, List.getElem?_append_right (Nat.le_refl _), Nat.sub_self]
      rfl
    have hl : ∀ i, i ∈ List.range l.length → (l ++ [x]).getD i d = l.getD i d := fun i hi => by
      rw [List.getD_eq_getElem?_getD, List.getD_eq_getElem?_getD, List.getElem?_append_left (List.mem_range.mp hi)]
    congr 1
    · have e1 : (List.range l.length).filter (fun i => keep ((l ++ [x]).getD i d)) = (List.range l.length).filter (fun i => keep (l.getD i d)) := List.filter_congr fun i hi => by rw [hl i hi]
      rw [e1]
      exact List.map_congr_left fun i hi => by rw [hl i (List.mem_filter.mp hi).1]
    · rw [List.filter_cons, List.filter_cons, hx]
      cases keep x with
      | true => simp only [if_true, List.filter_nil, List.map_cons, List.map_nil, hx]
      | false => rfl
theorem pe_lcK {elt it : Expr} {scope : Scope} {i j : Nat} {x : Str} {xpos pos : Pos} {ifs : List Expr} {tt : TT} {te : TE} (hc : X.calm = true) (hN : X.N.Nodup) (ha : PE X it (fun σ H Q => ∃ v, σ[i]? = some (some v) ∧ Q v H)) (ok : BlkOk X.N X.env.scope scope [(x, j)])
    (hgt : ∀ (s : Shared) (H : Hp) (C : Addr) (cl : List (Str × Addr)) (fp : List Addr), PG (X.blk s H scope (compEnvC scope cl C X.env) fp) (.Name x xpos) (gName j))
    (ht : ∀ (s : Shared) (H : Hp) (C : Addr) (cl : List (Str × Addr)) (fp : List Addr), PTs (X.blk s H scope (compEnvC scope cl C X.env) fp) ifs tt)
    (he : ∀ (s : Shared) (H : Hp) (C : Addr) (cl : List (Str × Addr)) (fp : List Addr), PE (X.blk s H scope (compEnvC scope cl C X.env) fp) elt te) (hs2 : ∀ y, foldedSetIterable it X.env y = pure y := by intro _; rfl) :
    PE X (.ListComp elt [⟨.Name x xpos, it, ifs, 0⟩] scope pos) (mLcK i j tt te) :=
  pe_weak (pe_lock (pe_lcP (wi' := iKeys fun σ H Q => ∃ v, σ[i]? = some (some v) ∧ Q v H) [j] im_keys hc hN (pi_keys (pe_c ha)) ok hgt (fun s H C cl fp => pts_c (ht s H C cl fp)) (fun s H C cl fp => pe_c (he s H C cl fp)) rfl hs2)) fun σ H Q q => by
    unfold mLcK at q
    obtain ⟨d, kvs, ns, keep, f, h1, h2, h3, h4, h5, q⟩ := q
    have hkl : kvs.length = ns.length := by
      have e := congrArg List.length h3
      rw [List.length_map, List.length_map] at e
      exact e
    refine ⟨d, .dK kvs, h2, trivial, fun od => ?_⟩
    unfold mLcP
    refine ⟨.ref d, h1, d, od, rfl, .inl ⟨kvs, upd_same, ?_⟩⟩
    have nd : ∀ {p : Addr}, (upd H d (.frz od (.dK kvs))) p = none → p ≠ d := fun z e => by
      rw [e, upd_same] at z
      cases z
    refine ⟨kvs.length, _, _, fun k => keep (ns.getD k 0), fun k => f (ns.getD k 0), walk_keys (d := d) (o := od) (kvs := kvs), by omega, fun H' s => s _ _ upd_same, fun D hD k y H' H'' hk p w => ?_, fun p H' np s e => ?_⟩
    · obtain ⟨rfl, ky, vy, hkv, rfl⟩ := w
      have hk2 : k < ns.length := by omega
      have ek : ky = Sum.inl (ns.getD k 0) := by
        have z : (kvs.map Prod.fst)[k]? = (ns.map (Sum.inl (β := Str)))[k]? := by rw [h3]
        rw [List.getElem?_map, List.getElem?_map, hkv, List.getElem?_eq_getElem hk2] at z
        rw [List.getD_eq_getElem?_getD, List.getElem?_eq_getElem hk2]
        exact Option.some.inj z
      subst ek
      have hin : ns.getD k 0 ∈ ns := by
        rw [List.getD_eq_getElem?_getD, List.getElem?_eq_getElem hk2]
        exact List.getElem_mem hk2
      have base : ∀ b o, b ≠ d → H b = some o → H'' b = some o := fun b o hb e => p.sm _ _ (by rw [upd_ne hb]; exact e)
      have hh := h5 _ hin H'' base
      refine ⟨wipe_set rfl, _, hh, fun b H2 r => ?_⟩
      obtain ⟨s1, rfl, r⟩ := r
      cases hb : keep (ns.getD k 0) with
      | true =>
        refine br_T ⟨_, r hb, fun v H3 r2 => ?_⟩
        obtain ⟨s2, rfl⟩ := r2
        exact p.put hD (by omega) (s1.trans s2) hb rfl
      | false => exact br_F (p.skip s1 hb)
    · have hpd : p ≠ d := nd np
      rw [hkl, filter_idx keep f 0 ns] at e
      refine ⟨s _ _ upd_same, q p (upd H' d (.dK kvs)) (by rw [upd_ne hpd] at np; exact np) (fun b o hb => ?_) (by rw [upd_ne hpd]; exact e)⟩
      by_cases hbd : b = d
      · subst hbd
        rw [upd_same]
        rw [h2] at hb
        exact hb
      · rw [upd_ne hbd]
        exact s _ _ (by rw [upd_ne hbd]; exact hb)
end
/-! ### new tuples, told to be new -/
def EltF (te : TE) (σ : L2.St) (H : Hp) (xs : List V) : Prop := ∀ H', Same H H' → te σ H' fun v H'' => Same H' H'' ∧ ∃ p, v = .ref p ∧ H' p = none ∧ H'' p = some (.tup xs)
def NewTF (n : Nat) (f : Nat → List V) (H : Hp) (Q : VK) : Prop := ∀ (D : Addr) (H' : Hp) (ps : List Addr), H D = none → Same H H' → H' D = some (.lst (ps.map V.ref)) → ps.length = n → (∀ i p, ps[i]? = some p → H p = none ∧ H' p = some (.tup (f i))) → Q (.ref D) H'
def TsF (H1 : Hp) (D : Addr) (f : Nat → List V) (i : Nat) (H' : Hp) : Prop := Same H1 H' ∧ ∃ ps : List Addr, H' D = some (.lst (ps.map V.ref)) ∧ ps.length = i ∧ ∀ k p, ps[k]? = some p → H1 p = none ∧ H' p = some (.tup (f k))
theorem TsF.next {H1 H' H'' : Hp} {D p : Addr} {f : Nat → List V} {i : Nat} (hD : H1 D = none) (w : TsF H1 D f i H') (s : Same H' H'') (hn : H' p = none) (hp : H'' p = some (.tup (f i))) : ∃ acc, H'' D = some (.lst acc) ∧ acc.length = i ∧ TsF H1 D f (i + 1) (upd H'' D (.lst (acc ++ [.ref p]))) := by
  obtain ⟨sm, ps, hd, hl, ht⟩ := w
  have hd2 := s _ _ hd
  have ne : ∀ {q : Addr} {xs : List V}, H'' q = some (.tup xs) → q ≠ D := fun {q xs} h e => by
    rw [e, hd2] at h
    cases h
  refine ⟨_, hd2, by rw [List.length_map, hl], same_mut (sm.trans s) hD, ps ++ [p], ?_, by rw [List.length_append, List.length_singleton, hl], fun k q hk => ?_⟩
  · rw [upd_same, List.map_append]
    rfl
  · by_cases h : k < ps.length
    · rw [List.getElem?_append_left h] at hk
      have h2 := ht k q hk
      have h3 := s _ _ h2.2
      refine ⟨h2.1, ?_⟩
      rw [upd_ne (ne h3)]
      exact h3
    · rw [List.getElem?_append_right (by omega)] at hk
      have h0 : k - ps.length = 0 := by
        cases e : k - ps.length with
        | zero => rfl
        | succ m => rw [e] at hk; simp at hk
      rw [h0] at hk
      have e : p = q := Option.some.inj hk
      have ek : k = i := by omega
      subst e
      rw [ek, upd_ne (ne hp)]
      exact ⟨same_none sm hn, hp⟩
/-! ### [(..) for x in range(a, b)] -/
@[irreducible] def mLcTR2 (ta : TA) (j : Nat) (te : TE) (vs : List Nat) : TE := fun σ H Q => ta σ H fun ws H1 => ∃ (lo hi : Int) (f : Nat → List V), ws = [.int lo, .int hi] ∧ (-100000 ≤ lo ∧ lo ≤ 100000 ∧ -100000 ≤ hi ∧ hi ≤ 100000) ∧ (∀ i, i < (hi - lo).toNat → EltF te ((wipe σ vs).set j (some (.int (lo + (i : Int))))) H1 (f i)) ∧ NewTF (hi - lo).toNat f H1 Q
theorem rd_lcTR2 {ta : TA} {j : Nat} {te : TE} {vs : List Nat} {σ : L2.St} {H : Hp} {Q : VK} (h : ta σ H fun ws H1 => ∃ (lo hi : Int) (f : Nat → List V), ws = [.int lo, .int hi] ∧ (-100000 ≤ lo ∧ lo ≤ 100000 ∧ -100000 ≤ hi ∧ hi ≤ 100000) ∧ (∀ i, i < (hi - lo).toNat → EltF te ((wipe σ vs).set j (some (.int (lo + (i : Int))))) H1 (f i)) ∧ NewTF (hi - lo).toNat f H1 Q) : mLcTR2 ta j te vs σ H Q := by
  unfold mLcTR2
  exact h
theorem lcTR2_of {ta : TA} {j : Nat} {te : TE} {vs : List Nat} {σ : L2.St} {H : Hp} {Q : VK} (hj : vs = [j]) (q : mLcTR2 ta j te vs σ H Q) : tLc (iRng2 (cTA ta)) (gName j) tYes (cTE te) vs σ H Q := by
  unfold mLcTR2 at q
  refine ⟨_, q, fun ws H1 r => ?_⟩
  obtain ⟨lo, hi, f, rfl, ⟨h1, h2, h3, h4⟩, he, hq⟩ := r
  have big : (2 : Int) ^ 62 = 4611686018427387904 := by decide
  refine ⟨lo, hi, rfl, ⟨by omega, by omega, by omega, by omega⟩, fun D hD => ?_⟩
  refine lc_range (lo := lo) (n := (hi - lo).toNat) (fun i H' => TsF H1 D f i H') ⟨same_upd hD, [], upd_same, rfl, fun k p h => by cases h⟩ (fun i H' hi w => ⟨wipe_set hj, _, he i hi H' w.1, fun v H'' r => ?_⟩) fun H' w => ?_
  · obtain ⟨s, p, rfl, hn, hp⟩ := r
    obtain ⟨acc, k1, k2, k3⟩ := w.next hD s hn hp
    exact ⟨acc, k1, szl (by omega), k3⟩
  · obtain ⟨sm, ps, hd, hl, ht⟩ := w
    exact hq D H' ps hD sm hd hl ht
section
variable {X : Cx} {te : TE} {ta : TA} {pos : Pos}
theorem pe_lcTR2 {elt : Expr} {scope : Scope} {j : Nat} {x : Str} {a b : Expr} {p p2 xpos : Pos} (hc : X.calm = true) (hN : X.N.Nodup) (hg : Gl X "range") (hm : X.mg "range" = none) (ha : PA X [a, b] ta) (ok : BlkOk X.N X.env.scope scope [(x, j)])
    (hgt : ∀ (s : Shared) (H : Hp) (C : Addr) (cl : List (Str × Addr)) (fp : List Addr), PG (X.blk s H scope (compEnvC scope cl C X.env) fp) (.Name x xpos) (gName j))
    (he : ∀ (s : Shared) (H : Hp) (C : Addr) (cl : List (Str × Addr)) (fp : List Addr), PE (X.blk s H scope (compEnvC scope cl C X.env) fp) elt te)
    (hs : starEach [a, b] X.env = [(false, eval a X.env), (false, eval b X.env)] := by rfl) (hs3 : starEach [b] X.env = [(false, eval b X.env)] := by rfl) (hs2 : ∀ y, foldedSetIterable (.Call (.Name "range" p) [a, b] [] p2) X.env y = pure y := by intro _; rfl) :
    PE X (.ListComp elt [⟨.Name x xpos, .Call (.Name "range" p) [a, b] [] p2, [], 0⟩] scope pos) (mLcTR2 ta j te [j]) :=
  pe_weak (pe_lc hc hN (pi_range2 hg hm (pa_c ha) hs hs3) ok hgt (fun _ _ _ _ _ => pts_nil) (fun s H C cl fp => pe_c (he s H C cl fp)) hs2) fun _ _ _ q => lcTR2_of rfl q
end
/-- new objects join what stays -/
theorem Own.adopt {S B0 B H H' : Hp} {as : List Addr} {l : List (Addr × HO)} (w : Own S B0 as B l H) (s : Same H H') (ps : List Addr) (hp : ∀ p ∈ ps, H p = none ∧ H' p ≠ none) : ∃ B', Same B B' ∧ (∀ p ∈ ps, B' p = H' p) ∧ Own S B0 as B' l H' := by
  have hB : ∀ p ∈ ps, B p = none := fun p h => w.frB (hp p h).1
  have sb : Same B (fun b => if b ∈ ps then H' b else B b) := fun b o h => by
    show (if b ∈ ps then H' b else B b) = some o
    rw [if_neg (fun z => by rw [hB b z] at h; cases h)]
    exact h
  refine ⟨fun b => if b ∈ ps then H' b else B b, sb, fun p h => if_pos h, ⟨fun a u h => s _ _ (w.c.cell a u h), w.c.nd, fun b u h => ?_, fun a u h => ?_⟩, fun b u hb h => s _ _ (w.kept b u hb h), w.own, w.grow.trans sb, fun b h k => ?_, fun a h e => w.there a h (same_none s e)⟩
  · have h2 : (if b ∈ ps then H' b else B b) = some u := h
    split at h2
    · exact h2
    · exact s _ _ (w.c.imm _ _ h2)
  · show (if a ∈ ps then H' a else B a) = none
    rw [if_neg (fun z => w.notin (hp a z).1 h)]
    exact w.c.dis a u h
  · by_cases hb : b ∈ ps
    · exact (w.frS (hp b hb).1).1
    · have k2 : (if b ∈ ps then H' b else B b) ≠ none := k
      rw [if_neg hb] at k2
      exact w.new b h k2
theorem br_or {c d : Bool} {Q : VK} {H : Hp} {B : Prop} (hB : Q (.bl d) H → B) (q : Q (.bl (c || d)) H) : Br c (Q (.bl true) H) B := by
  cases c with
  | true => exact br_T q
  | false => exact br_F (hB q)
theorem rd_dget2P {a : Addr} {kvs : List (Key × V)} {n : Int} {z : V} {H : Hp} {Q : VK} (P : V → Hp → Prop) (h : H a = some (.dK kvs)) (p : P ((valV kvs (.inl n)).getD z) H) (k : ∀ v H', P v H' → Q v H') : mDGet2 (.ref a) (.int n) z H Q := rd_dget2 h (k _ _ p)
theorem Own.perm {S B0 B H : Hp} {as : List Addr} {l l' : List (Addr × HO)} (w : Own S B0 as B l H) (h : l'.Perm l) : Own S B0 as B l' H := w.sub (fun _ hc => h.mem_iff.mp hc) ((h.map _).nodup_iff.mpr w.c.nd)
/-! ### [(..) for target in xs]: new tuples -/
@[irreducible] def mLcTG (K : PySem.W.Frag) (tl : TE) (g : TG) (te : TE) (vs : List Nat) : TE := fun σ H Q => tl σ H fun x H1 => ∃ (a : Addr) (xs : List V) (f : Nat → List V), x = .ref a ∧ SqL K H1 a xs ∧ xs.length ≤ 1000 ∧
  (∀ i y, xs[i]? = some y → ∀ H', Same H1 H' → g y (wipe σ vs) H' fun σ2 H2 => wipe σ2 vs = wipe σ vs ∧ te σ2 H2 fun v H3 => Same H' H3 ∧ ∃ p, v = .ref p ∧ H3 p = some (.tup (f i))) ∧ NewTs xs.length f H1 Q
theorem rd_lcTG {K : PySem.W.Frag} {tl : TE} {g : TG} {te : TE} {vs : List Nat} {σ : L2.St} {H : Hp} {Q : VK} (h : tl σ H fun x H1 => ∃ (a : Addr) (xs : List V) (f : Nat → List V), x = .ref a ∧ SqL K H1 a xs ∧ xs.length ≤ 1000 ∧
  (∀ i y, xs[i]? = some y → ∀ H', Same H1 H' → g y (wipe σ vs) H' fun σ2 H2 => wipe σ2 vs = wipe σ vs ∧ te σ2 H2 fun v H3 => Same H' H3 ∧ ∃ p, v = .ref p ∧ H3 p = some (.tup (f i))) ∧ NewTs xs.length f H1 Q) : mLcTG K tl g te vs σ H Q := by
  unfold mLcTG
  exact h
theorem lcTG_of {K : PySem.W.Frag} {tl : TE} {g : TG} {te : TE} {vs : List Nat} {σ : L2.St} {H : Hp} {Q : VK} (q : mLcTG K tl g te vs σ H Q) : tLc (iList K (cTE tl)) (cTG g) tYes (cTE te) vs σ H Q := by
  unfold mLcTG at q
  refine ⟨_, q, fun x H1 r => ?_⟩
  obtain ⟨a, xs, f, rfl, hx, hn, he, hq⟩ := r
  refine ⟨a, rfl, ⟨xs, hx⟩, fun D hD => ?_⟩
  refine lc_list (xs := xs) (fun i H' => TsW H1 D f i H') ⟨same_upd hD, [], upd_same, rfl, fun k p h => by cases h⟩ (fun i H' _ w => w.1.seq hx) (fun i y H' hi w => ⟨_, he i y hi H' w.1, fun σ2 H2 r => ⟨r.1, _, r.2, fun v H3 r2 => ?_⟩⟩) fun H' w => ?_
  · obtain ⟨s, p, rfl, hp⟩ := r2
    obtain ⟨acc, h1, h2, h3⟩ := w.next hD s hp
    have hl : i < xs.length := (List.getElem?_eq_some_iff.mp hi).1
    exact ⟨acc, h1, szl (by omega), h3⟩
  · obtain ⟨sm, ps, hd, hl, ht⟩ := w
    exact hq D H' ps hD sm hd hl ht
theorem pe_lcTG {X : Cx} {tg elt it : Expr} {scope : Scope} {own : List (Str × Nat)} {g : TG} {te tl : TE} {pos : Pos} (vs : List Nat) (hc : X.calm = true) (hN : X.N.Nodup) (ha : PE X it tl) (ok : BlkOk X.N X.env.scope scope own)
    (hgt : ∀ (s : Shared) (H : Hp) (C : Addr) (cl : List (Str × Addr)) (fp : List Addr), PG (X.blk s H scope (compEnvC scope cl C X.env) fp) tg g)
    (he : ∀ (s : Shared) (H : Hp) (C : Addr) (cl : List (Str × Addr)) (fp : List Addr), PE (X.blk s H scope (compEnvC scope cl C X.env) fp) elt te) (hvs : own.map (·.2) = vs := by rfl) (hs2 : ∀ y, foldedSetIterable it X.env y = pure y := by intro _; rfl) :
    PE X (.ListComp elt [⟨tg, it, [], 0⟩] scope pos) (mLcTG X.K tl g te vs) :=
  pe_weak (pe_lc hc hN (pi_list (pe_c ha)) ok (fun s H C cl fp => pg_c (hgt s H C cl fp)) (fun _ _ _ _ _ => pts_nil) (fun s H C cl fp => pe_c (he s H C cl fp)) hs2) fun _ _ _ q => by
    rw [hvs]
    exact lcTG_of q
/-! ### x or y as a value, y a name -/
@[irreducible] def OrB (x : V) (σ : L2.St) (j : Nat) (H : Hp) (Q : VK) : Prop := ∃ c d, x = .bl c ∧ σ[j]? = some (some (.bl d)) ∧ Q (.bl (c || d)) H
def mOrB (ta : TE) (j : Nat) : TE := fun σ H Q => ta σ H fun x H1 => OrB x σ j H1 Q
theorem pe_orB {X : Cx} {a b : Expr} {ta : TE} {j : Nat} {pos : Pos} (ha : PE X a ta) (hb : PE X b (fun σ H Q => ∃ v, σ[j]? = some (some v) ∧ Q v H)) : PE X (.BoolOp .Or [a, b] pos) (mOrB ta j) :=
  pe_weak (pe_orM (pe_c ha) (pe_one hb)) fun σ H Q q => ⟨_, q, fun x H1 r => by
    unfold OrB at r
    obtain ⟨c, d, e, hd, r⟩ := r
    cases c with
    | true => exact ⟨true, e, br_T r⟩
    | false => exact ⟨false, e, br_F ⟨.bl d, hd, r⟩⟩⟩
theorem rd_orB {c d : Bool} {σ : L2.St} {j : Nat} {H : Hp} {Q : VK} (hd : σ[j]? = some (some (.bl d))) (q : Q (.bl (c || d)) H) : OrB (.bl c) σ j H Q := by
  unfold OrB
  exact ⟨c, d, rfl, hd, q⟩
/-- a and b as a test, told as one truth value -/
@[irreducible] def AndP (c : Bool) (u : TT) (σ : L2.St) (H : Hp) (Q : Bool → Hp → Prop) : Prop := ∃ d : Bool, (c = true → u σ H fun d' H2 => d' = d ∧ H2 = H) ∧ Q (c && d) H
def mAndP (t u : TT) : TT := fun σ H Q => t σ H fun c H1 => AndP c u σ H1 Q
theorem pw_andP {X : Cx} {a b : Expr} {tA tB : TT} {pos : Pos} (ha : PT X a tA) (hb : PT X b tB) : PW X (.BoolOp .And [a, b] pos) (mAndP tA tB) :=
  pw_weak (pw_andM (pt_c ha) (pw_and1 (pt_c hb))) fun σ H Q q => ⟨_, q, fun c H1 r => by
    unfold AndP at r
    obtain ⟨d, h1, h2⟩ := r
    cases c with
    | true => exact br_T ⟨_, h1 rfl, fun d' H2 z => by
        obtain ⟨rfl, rfl⟩ := z
        exact h2⟩
    | false => exact br_F h2⟩
theorem rd_andP {c : Bool} {u : TT} {σ : L2.St} {H : Hp} {Q : Bool → Hp → Prop} (d : Bool) (h : c = true → u σ H fun d' H2 => d' = d ∧ H2 = H) (q : Q (c && d) H) : AndP c u σ H Q := by
  unfold AndP
  exact ⟨d, h, q⟩
end My
namespace My
open PySem L2
/-! ### a comprehension told by what holds between its turns -/
theorem im_rng3 {ta : TA} : IMono (iRng3 ta) (iRng3 (cTA ta)) := fun σ H R R' h q => ⟨_, q, fun v H' r => by
  obtain ⟨i, j, c, n, e, h1, r⟩ := r
  exact ⟨i, j, c, n, e, h1, h _ _ r⟩⟩
/-- acc: what the new list holds so far; the turn may change the heap, the new list aside -/
def LcWT (D : Addr) (acc : List V) (P : List V → Hp → Prop) (y : V) (H4 : Hp) : Prop := H4 D = some (.lst acc) ∧ P (acc ++ [y]) (upd H4 D (.lst (acc ++ [y])))
def LcWS (D : Addr) (acc : List V) (P : List V → Hp → Prop) (H4 : Hp) : Prop := H4 D = some (.lst acc) ∧ P acc H4
@[irreducible] def LcWP (J : It) (g : TG) (tt : TT) (te : TE) (vs : List Nat) (σ : L2.St) (Q : VK) (H1 : Hp) : Prop := ∃ (n : Nat) (G : Hp → Prop) (Y : Nat → Hp → V → Hp → Prop), Walk J n G Y ∧ n ≤ 100000 ∧ ∀ D, H1 D = none → ∃ Pv : Nat → List V → Hp → Prop, Pv 0 [] (upd H1 D (.lst [])) ∧
  (∀ i acc H', i ≤ n → acc.length ≤ i → H' D = some (.lst acc) → Pv i acc H' → G H') ∧
  (∀ i acc x H' H'', i < n → acc.length ≤ i → H' D = some (.lst acc) → Pv i acc H' → Y i H' x H'' → g x (wipe σ vs) H'' fun σ2 H2 => wipe σ2 vs = wipe σ vs ∧ tt σ2 H2 fun b H3 => Br b (te σ2 H3 fun y H4 => LcWT D acc (Pv (i + 1)) y H4) (LcWS D acc (Pv (i + 1)) H3)) ∧
  ∀ acc H', acc.length ≤ n → H' D = some (.lst acc) → Pv n acc H' → Q (.ref D) H'
@[irreducible] def mLcW (wi : TI) (g : TG) (tt : TT) (te : TE) (vs : List Nat) : TE := fun σ H Q => wi σ H fun J H1 => LcWP J g tt te vs σ Q H1
theorem lcW_of {g : TG} {tt : TT} {te : TE} {wi wi' : TI} {vs : List Nat} {σ : L2.St} {H : Hp} {Q : VK} (hw : IMono wi' wi) (q : mLcW wi' g tt te vs σ H Q) : tLc wi (cTG g) (cTT tt) (cTE te) vs σ H Q := by
  unfold mLcW at q
  refine hw _ _ _ _ (fun J H1 r => ?_) q
  unfold LcWP at r
  obtain ⟨n, G, Y, w, hn, r⟩ := r
  intro D hD
  obtain ⟨Pv, h0, hG, ht, hq⟩ := r D hD
  refine lc_it w (fun i H' => ∃ acc : List V, acc.length ≤ i ∧ H' D = some (.lst acc) ∧ Pv i acc H') ⟨[], Nat.le_refl _, upd_same, h0⟩ (fun i H' hi p => ?_) (fun i x H' H'' hi p y => ?_) fun H' p => ?_
  · obtain ⟨acc, h1, h2, h3⟩ := p
    exact hG i acc H' hi h1 h2 h3
  · obtain ⟨acc, h1, h2, h3⟩ := p
    refine ⟨_, ht i acc x H' H'' hi h1 h2 h3 y, fun σ2 H2 r => ⟨r.1, _, r.2, fun b H3 r => ?_⟩⟩
    cases b with
    | true =>
      refine iteT ⟨_, (r.un : if true = true then _ else _), fun y2 H4 z => ⟨acc, z.1, szl (by omega), acc ++ [y2], ?_, upd_same, z.2⟩⟩
      rw [List.length_append, List.length_singleton]
      omega
    | false => exact iteF (by
        have z : LcWS D acc (Pv (i + 1)) H3 := (r.un : if false = true then _ else _)
        exact ⟨acc, by omega, z.1, z.2⟩)
  · obtain ⟨acc, h1, h2, h3⟩ := p
    exact hq acc H' h1 h2 h3
section
variable {X : Cx} {e tg : Expr} {ifs : List Expr} {g : TG} {tt : TT} {te : TE}
theorem pe_lcW {iter elt : Expr} {scope : Scope} {own : List (Str × Nat)} {pos : Pos} {wi wi' : TI} (vs : List Nat) (hw : IMono wi' wi) (hc : X.calm = true) (hN : X.N.Nodup) (hi : PI X tg iter wi) (ok : BlkOk X.N X.env.scope scope own)
    (hg : ∀ (s : Shared) (H : Hp) (C : Addr) (cl : List (Str × Addr)) (fp : List Addr), PG (X.blk s H scope (compEnvC scope cl C X.env) fp) tg g) (ht : ∀ (s : Shared) (H : Hp) (C : Addr) (cl : List (Str × Addr)) (fp : List Addr), PTs (X.blk s H scope (compEnvC scope cl C X.env) fp) ifs tt)
    (he : ∀ (s : Shared) (H : Hp) (C : Addr) (cl : List (Str × Addr)) (fp : List Addr), PE (X.blk s H scope (compEnvC scope cl C X.env) fp) elt te) (hvs : own.map (·.2) = vs := by rfl) (hs : ∀ x, foldedSetIterable iter X.env x = pure x := by intro _; rfl) :
    PE X (.ListComp elt [⟨tg, iter, ifs, 0⟩] scope pos) (mLcW wi' g tt te vs) :=
  pe_weak (pe_lc hc hN hi ok (fun s H C cl fp => pg_c (hg s H C cl fp)) (fun s H C cl fp => pts_c (ht s H C cl fp)) (fun s H C cl fp => pe_c (he s H C cl fp)) hs) fun _ _ _ q => by
    rw [hvs]
    exact lcW_of hw q
theorem ps_setLcW {i : Nat} {y : Str} {py : Pos} {iter elt : Expr} {scope : Scope} {own : List (Str × Nat)} {pos spos : Pos} {wi wi' : TI} (vs : List Nat) (hw : IMono wi' wi) (hc : X.calm = true) (hN : X.N.Nodup) (hy : X.N[i]? = some y) (hyl : X.env.scope.names.lookup y = some .local)
    (hsw : swapsWith (.ListComp elt [⟨tg, iter, ifs, 0⟩] scope pos) (some (.Name y py)) spos.line X.env = pure true) (hi : PI X tg iter wi) (ok : BlkOk X.N X.env.scope scope own)
    (hg : ∀ (s : Shared) (H : Hp) (C : Addr) (cl : List (Str × Addr)) (fp : List Addr), PG (X.blk s H scope (compEnvC scope cl C X.env) fp) tg g) (ht : ∀ (s : Shared) (H : Hp) (C : Addr) (cl : List (Str × Addr)) (fp : List Addr), PTs (X.blk s H scope (compEnvC scope cl C X.env) fp) ifs tt)
    (he : ∀ (s : Shared) (H : Hp) (C : Addr) (cl : List (Str × Addr)) (fp : List Addr), PE (X.blk s H scope (compEnvC scope cl C X.env) fp) elt te) (hvs : own.map (·.2) = vs := by rfl) (hs : ∀ x, foldedSetIterable iter X.env x = pure x := by intro _; rfl) :
    PS X (.Assign [.Name y py] (.ListComp elt [⟨tg, iter, ifs, 0⟩] scope pos) spos) (tAsg (mLcW wi' g tt te vs) (gName i)) :=
  ps_weak (ps_setLc hc hN hy hyl hsw hi ok (fun s H C cl fp => pg_c (hg s H C cl fp)) (fun s H C cl fp => pts_c (ht s H C cl fp)) (fun s H C cl fp => pe_c (he s H C cl fp)) hs) fun _ _ _ q => by
    rw [hvs]
    exact lcW_of hw q
end
/-! ### its walks: a list, a range -/
theorem rd_lcW {wi : TI} {g : TG} {tt : TT} {te : TE} {vs : List Nat} {σ : L2.St} {H : Hp} {Q : VK} (h : wi σ H fun J H1 => LcWP J g tt te vs σ Q H1) : mLcW wi g tt te vs σ H Q := by
  unfold mLcW
  exact h
section
variable {K : PySem.W.Frag} {g : TG} {tt : TT} {te : TE} {vs : List Nat} {σ : L2.St} {H1 : Hp} {Q : VK}
theorem wl_list {a : Addr} (xs : List V) (hn : xs.length ≤ 100000) (r : ∀ D, H1 D = none → ∃ Pv : Nat → List V → Hp → Prop, Pv 0 [] (upd H1 D (.lst [])) ∧
    (∀ i acc H', i ≤ xs.length → acc.length ≤ i → H' D = some (.lst acc) → Pv i acc H' → SqL K H' a xs) ∧
    (∀ i acc x H', xs[i]? = some x → acc.length ≤ i → H' D = some (.lst acc) → Pv i acc H' → g x (wipe σ vs) H' fun σ2 H2 => wipe σ2 vs = wipe σ vs ∧ tt σ2 H2 fun b H3 => Br b (te σ2 H3 fun y H4 => LcWT D acc (Pv (i + 1)) y H4) (LcWS D acc (Pv (i + 1)) H3)) ∧
    ∀ acc H', acc.length ≤ xs.length → H' D = some (.lst acc) → Pv xs.length acc H' → Q (.ref D) H') :
    LcWP (Itl K a) g tt te vs σ Q H1 := by
  unfold LcWP
  refine ⟨xs.length, _, _, walk_list (K := K) (a := a) (xs := xs), hn, fun D hD => ?_⟩
  obtain ⟨Pv, h0, hG, ht, hq⟩ := r D hD
  refine ⟨Pv, h0, hG, fun i acc x H' H'' hi h1 h2 h3 y => ?_, hq⟩
  obtain ⟨rfl, hx2⟩ := y
  exact ht i acc x _ hx2 h1 h2 h3
/-- for x in range(lo, ..), n turns -/
theorem wl_rng {lo : Int} {n : Nat} (hn : n ≤ 100000) (r : ∀ D, H1 D = none → ∃ Pv : Nat → List V → Hp → Prop, Pv 0 [] (upd H1 D (.lst [])) ∧
    (∀ (i : Nat) acc H', i < n → acc.length ≤ i → H' D = some (.lst acc) → Pv i acc H' → g (.int (lo + (i : Nat))) (wipe σ vs) H' fun σ2 H2 => wipe σ2 vs = wipe σ vs ∧ tt σ2 H2 fun b H3 => Br b (te σ2 H3 fun y H4 => LcWT D acc (Pv (i + 1)) y H4) (LcWS D acc (Pv (i + 1)) H3)) ∧
    ∀ acc H', acc.length ≤ n → H' D = some (.lst acc) → Pv n acc H' → Q (.ref D) H') :
    LcWP (Itr lo n) g tt te vs σ Q H1 := by
  unfold LcWP
  refine ⟨n, _, _, walk_range (lo := lo) (n := n), hn, fun D hD => ?_⟩
  obtain ⟨Pv, h0, ht, hq⟩ := r D hD
  refine ⟨Pv, h0, fun _ _ _ _ _ _ _ => trivial, fun i acc x H' H'' hi h1 h2 h3 y => ?_, hq⟩
  obtain ⟨rfl, rfl⟩ := y
  exact ht i acc _ hi h1 h2 h3
end
/-! ### lists of lists of whole numbers -/
inductive LLs (H : Hp) : List Addr → List (List Int) → Prop
  | nil : LLs H [] []
  | cons {p : Addr} {ps : List Addr} {x : List Int} {r : List (List Int)} (h : H p = some (.lst (x.map V.int))) (t : LLs H ps r) : LLs H (p :: ps) (x :: r)
section
variable {H H' : Hp} {ps : List Addr} {xss : List (List Int)} {p : Addr} {x : List Int}
theorem LLs.mono (h : LLs H ps xss) (s : Same H H') : LLs H' ps xss := by
  induction h with
  | nil => exact .nil
  | cons h _ ih => exact .cons (s _ _ h) ih
/-- where only the addresses told stay as they were -/
theorem LLs.stay (h : LLs H ps xss) (s : ∀ p ∈ ps, H' p = H p) : LLs H' ps xss := by
  induction h with
  | nil => exact .nil
  | cons h _ ih => exact .cons ((s _ List.mem_cons_self).trans h) (ih fun p hp => s p (List.mem_cons_of_mem _ hp))
theorem LLs.snoc (h : LLs H ps xss) (e : H p = some (.lst (x.map V.int))) : LLs H (ps ++ [p]) (xss ++ [x]) := by
  induction h with
  | nil => exact .cons e .nil
  | cons h _ ih => exact .cons h ih
theorem LLs.len (h : LLs H ps xss) : ps.length = xss.length := by
  induction h with
  | nil => rfl
  | cons _ _ ih => rw [List.length_cons, List.length_cons, ih]
theorem LLs.at (h : LLs H ps xss) {i : Nat} (hp : ps[i]? = some p) : ∃ x, xss[i]? = some x ∧ H p = some (.lst (x.map V.int)) := by
  induction h generalizing i with
  | nil => cases hp
  | cons h _ ih =>
    cases i with
    | zero => exact ⟨_, rfl, (Option.some.inj hp) ▸ h⟩
    | succ i => exact ih hp
theorem LLs.mem (h : LLs H ps xss) (hp : p ∈ ps) : ∃ x ∈ xss, H p = some (.lst (x.map V.int)) := by
  obtain ⟨i, hi⟩ := List.getElem?_of_mem hp
  obtain ⟨x, h1, h2⟩ := h.at hi
  exact ⟨x, List.mem_of_getElem? h1, h2⟩
theorem LLs.take (h : LLs H ps xss) (n : Nat) : LLs H (ps.take n) (xss.take n) := by
  induction h generalizing n with
  | nil => rw [List.take_nil, List.take_nil]; exact .nil
  | cons h _ ih =>
    cases n with
    | zero => exact .nil
    | succ n => exact .cons h (ih n)
theorem LLs.drop (h : LLs H ps xss) (n : Nat) : LLs H (ps.drop n) (xss.drop n) := by
  induction h generalizing n with
  | nil => rw [List.drop_nil, List.drop_nil]; exact .nil
  | cons h t ih =>
    cases n with
    | zero => exact .cons h t
    | succ n => exact ih n
theorem LLs.app {qs : List Addr} {yss : List (List Int)} (h : LLs H ps xss) (k : LLs H qs yss) : LLs H (ps ++ qs) (xss ++ yss) := by
  induction h with
  | nil => exact k
  | cons h _ ih => exact .cons h ih
theorem LLs.dps {K : PySem.W.Frag} (h : LLs H ps xss) : DpAll K H (ps.map V.ref) (xss.map fun l => PyData.list (l.map PyData.int)) := by
  induction h with
  | nil => exact .nil
  | cons h _ ih => exact .cons (dp_ints (sq_of h)) ih
theorem dp_lls {K : PySem.W.Frag} {a : Addr} (ha : SqL K H a (ps.map V.ref)) (h : LLs H ps xss) : Dp K H (.ref a) (.list (xss.map fun l => PyData.list (l.map PyData.int))) := .lst ha h.dps
end
def llD (xss : List (List Int)) : PyData := .list (xss.map fun l => PyData.list (l.map PyData.int))
theorem sh_lls {n : Nat} (xss : List (List Int)) : Sh (n + 2) (llD xss) := sh_lst (sh_map (fun l => sh_lst (sh_ints l)) xss)
theorem eqvLL : ∀ xss yss : List (List Int), PyData.eqvAll (xss.map fun l => PyData.list (l.map PyData.int)) (yss.map fun l => PyData.list (l.map PyData.int)) = decide (xss = yss)
  | [], [] => rfl
  | [], _ :: _ => rfl
  | _ :: _, [] => rfl
  | x :: xs, y :: ys => by
    show ((PyData.eqv (.list (x.map PyData.int)) (.list (y.map PyData.int))) && PyData.eqvAll (xs.map fun l => PyData.list (l.map PyData.int)) (ys.map fun l => PyData.list (l.map PyData.int))) = _
    rw [eqvLL xs ys]
    have e : PyData.eqv (.list (x.map PyData.int)) (.list (y.map PyData.int)) = decide (x = y) := eqvAll_ints x y
    rw [e]
    by_cases h1 : x = y
    · by_cases h2 : xs = ys
      · rw [decide_eq_true h1, decide_eq_true h2, h1, h2]
        exact (decide_eq_true rfl).symm
      · rw [decide_eq_false h2, Bool.and_false]
        exact (decide_eq_false fun z => h2 (List.cons.inj z).2).symm
    · rw [decide_eq_false h1, Bool.false_and]
      exact (decide_eq_false fun z => h1 (List.cons.inj z).1).symm
theorem eqv_llD (xss yss : List (List Int)) : PyData.eqv (llD xss) (llD yss) = decide (xss = yss) := eqvLL xss yss
section
variable {K : PySem.W.Frag} {H : Hp} {Q : VK} {a b : Addr} {ps qs : List Addr} {xss yss : List (List Int)}
theorem rd_eqLL (h1 : SqL K H a (ps.map V.ref)) (l1 : LLs H ps xss) (h2 : SqL K H b (qs.map V.ref)) (l2 : LLs H qs yss) (h : Q (.bl (decide (xss = yss))) H) : mEqD K (.ref a) (.ref b) H Q :=
  rd_eqA (n := 2) (m := 2) (llD xss) (llD yss) (dp_lls h1 l1) (dp_lls h2 l2) (sh_lls _) (sh_lls _) (by rw [eqv_llD]; exact h)
theorem rd_neLL (h1 : SqL K H a (ps.map V.ref)) (l1 : LLs H ps xss) (h2 : SqL K H b (qs.map V.ref)) (l2 : LLs H qs yss) (h : Q (.bl (!decide (xss = yss))) H) : mNeD K (.ref a) (.ref b) H Q :=
  rd_neA (n := 2) (m := 2) (llD xss) (llD yss) (dp_lls h1 l1) (dp_lls h2 l2) (sh_lls _) (sh_lls _) (by rw [eqv_llD]; exact h)
end
/-! ### [list(x) for x in xs], each a copy of its own -/
/-- the new list at D, the copies at qs -/
structure Cpy (H1 : Hp) (D : Addr) (qs : List Addr) (xss : List (List Int)) (H' : Hp) : Prop where
  sm : Same H1 H'
  at' : H' D = some (.lst (qs.map V.ref))
  ls : LLs H' qs xss
  fr : ∀ q ∈ qs, H1 q = none ∧ q ≠ D
  nd : qs.Nodup
theorem Cpy.next {H1 H' H'' : Hp} {D p : Addr} {qs : List Addr} {xss : List (List Int)} {x : List Int} (w : Cpy H1 D qs xss H') (hD : H1 D = none) (np : H' p = none) (s : Same H' H'') (e : H'' p = some (.lst (x.map V.int))) :
    Cpy H1 D (qs ++ [p]) (xss ++ [x]) (upd H'' D (.lst (qs.map V.ref ++ [.ref p]))) := by
  have hpD : p ≠ D := fun z => by
    rw [z, w.at'] at np
    cases np
  have hin : ∀ q ∈ qs, q ≠ p := fun q hq z => by
    obtain ⟨y, _, hy⟩ := w.ls.mem hq
    rw [z, np] at hy
    cases hy
  refine ⟨same_mut (w.sm.trans s) hD, ?_, ?_, fun q hq => ?_, ?_⟩
  · rw [upd_same, List.map_append]
    rfl
  · refine LLs.snoc ((w.ls.mono s).stay fun q hq => upd_ne (w.fr q hq).2) ?_
    rw [upd_ne hpD]
    exact e
  · rcases List.mem_append.mp hq with h | h
    · exact w.fr q h
    · rw [List.mem_singleton.mp h]
      exact ⟨same_none w.sm np, hpD⟩
  · refine List.nodup_append.mpr ⟨w.nd, List.nodup_cons.mpr ⟨fun h => (nomatch h), List.nodup_nil⟩, fun q hq r hr => ?_⟩
    rw [List.mem_singleton.mp hr]
    exact hin q hq
def cpOf (te : TE) (σ : L2.St) (H : Hp) (x : List Int) : Prop := ∀ (H' : Hp) (R : VK), Same H H' → NewO (.lst (x.map V.int)) H' R → te σ H' R
theorem wl_copy {K : PySem.W.Frag} {j : Nat} {te : TE} {σ : L2.St} {H1 : Hp} {Q : VK} {a : Addr} (xs : List V) (xss : List (List Int)) (hx : SqL K H1 a xs) (hl : xs.length = xss.length) (hn : xs.length ≤ 100000)
    (ht : ∀ (i : Nat) (y : V) (x : List Int), xs[i]? = some y → xss[i]? = some x → cpOf te ((wipe σ [j]).set j (some y)) H1 x) (hq : ∀ D qs H', H1 D = none → Cpy H1 D qs xss H' → Q (.ref D) H') :
    LcWP (Itl K a) (gName j) tYes te [j] σ Q H1 := by
  refine wl_list xs hn fun D hD => ⟨fun i acc H' => ∃ qs, acc = qs.map V.ref ∧ Cpy H1 D qs (xss.take i) H', ⟨[], rfl, same_upd hD, upd_same, .nil, fun q hq => (nomatch hq), List.nodup_nil⟩, fun i acc H' _ _ _ p => ?_, fun i acc y H' hi ha h2 p => ?_, fun acc H' ha h2 p => ?_⟩
  · obtain ⟨qs, rfl, p⟩ := p
    exact p.sm.seq hx
  · obtain ⟨qs, rfl, p⟩ := p
    have hi2 : i < xss.length := by
      have := (List.getElem?_eq_some_iff.mp hi).1
      omega
    have hi3 : xss[i]? = some xss[i] := List.getElem?_eq_getElem hi2
    show _ ∧ _
    refine ⟨wipe_set rfl, ?_⟩
    show Br true _ _
    refine br_T (ht i y _ hi hi3 H' _ p.sm fun q H'' nq s eq => ?_)
    refine ⟨s _ _ h2, qs ++ [q], by rw [List.map_append]; rfl, ?_⟩
    rw [take_snoc hi3]
    exact p.next hD nq s eq
  · obtain ⟨qs, rfl, p⟩ := p
    rw [hl, List.take_length] at p
    exact hq D qs H' hD p
/-! ### xs[lo:hi] = ys, the bounds left out or whole numbers -/
section
open PySem.Spec PyProof.Rows
theorem spl_arr (u v : List Value) (a c : Nat) : u.toArray.extract 0 a ++ v.toArray ++ u.toArray.extract c u.toArray.size = (u.take a ++ v ++ u.drop c).toArray := by
  apply Array.toList_inj.mp
  simp [List.take_of_length_le]
theorem setSl_at {prog : Program} {w : World} {A : Around} {E : Value → Shared → Prop} {s : Shared} {l b g : Addr} {us vs : Array Value} {n n2 : Nat} {v1 v2 : Value} {lo hi : Option Int} {Q : Unit → Shared → Prop}
    (hus : s.heap.get? l = some { cls := .type "list", data := .seq us n }) (hvs : s.heap.get? b = some { cls := .type "list", data := .seq vs n2 }) (hlb : l ≠ b)
    (hg : s.heap.IsSliceOf g v1 v2 .none) (p1 : IsPart v1 lo) (p2 : IsPart v2 hi) (hz : us.size + vs.size ≤ sizeLine)
    (k : Q () { s with heap := s.heap.update l (Obj.mapSeq fun xs => xs.extract 0 (PySem.W.kms_lo lo us.size) ++ vs ++ xs.extract (max (PySem.W.kms_lo lo us.size) (PySem.W.kms_hi hi us.size)) xs.size) }) :
    wpAny (model prog w) A (setItem (.ref l) (.ref g) (.ref b)) Q E s := by
  have tl : s.heap.IsList l us := PySem.IsL.isList hus
  have tb : s.heap.IsList b vs := PySem.IsL.isList hvs
  obtain ⟨og, hog, hgc, hgd⟩ := id hg
  have tg : s.TypeIs (.ref g) "slice" := ⟨og, hog, hgc⟩
  have hne : Builtin.List.listSameRef (.ref l) (.ref b) = false := by
    unfold Builtin.List.listSameRef
    exact beq_eq_false_iff_ne.mpr hlb
  have mx : ∀ a c : Nat, (max (a : Int) (c : Int)).toNat = max a c := fun a c => by omega
  generalize ha : PySem.W.kms_lo lo us.size = a at k
  generalize hc : PySem.W.kms_hi hi us.size = c at k
  have hb : sliceBounds lo hi none us.size = ((a : Int), (c : Int), 1) := by
    rw [← ha, ← hc]
    exact PySem.W.kms_bounds lo hi us.size
  have ham : a ≤ us.size := by
    rw [← ha]
    unfold PySem.W.kms_lo
    cases lo with
    | none => exact Nat.zero_le _
    | some x =>
      show (if x < 0 then us.size - (-x).toNat else min x.toNat us.size) ≤ us.size
      split <;> omega
  have hz2 : ((fun xs : Array Value => xs.extract 0 a ++ vs ++ xs.extract (max a c) xs.size) us).size ≤ sizeLine + 1 := by
    show (us.extract 0 a ++ vs ++ us.extract (max a c) us.size).size ≤ _
    rw [Array.size_append, Array.size_append, Array.size_extract, Array.size_extract]
    omega
  unfold setItem
  (try with_reducible refine wpAny_holding ?_)
  refine wpAny_bind (wpAny_sequenceKey tl.typeIs (by decide) ?_)
  refine wpAny_bind (wpAny_callSpecial?_slot (name := Str.ofString "__setitem__") tl.typeIs slot_list_setitem (wpAny_call_entry slot_list_setitem tl.typeIs entry_list_setitem ?_ (args_list_setitem _ _ _)))
  show wpAny _ _ (Builtin.List.listSubscript? (.ref g) >>= _) _ _ s
  refine wpAny_bind ?_
  unfold Builtin.List.listSubscript?
  refine wpAny_bind (wpAny_specialOf tg slice_no_index ?_)
  rw [if_pos (show (none : Option Value).isNone = true from rfl)]
  refine wpAny_pure ?_
  show wpAny _ _ (typeOf (.ref g) >>= _) _ _ s
  refine wpAny_bind (wpAny_typeOf tg ?_)
  rw [if_neg (by decide), listSliceParts_eq]
  refine wpAny_bind (wpAny_bind (wpAny_field hog hgd (x := .none) rfl (wpAny_bind (wpAny_listPart .none ?_))))
  rw [if_neg (show ¬ (rawPart none == rawInt 0) = true from Bool.false_ne_true)]
  refine wpAny_bind (wpAny_field hog hgd (x := v1) rfl (wpAny_bind (wpAny_listPart p1 ?_)))
  refine wpAny_bind (wpAny_field hog hgd (x := v2) rfl (wpAny_bind (wpAny_listPart p2 (wpAny_pure ?_))))
  refine PySem.W.KFB.if_not hne ?_
  refine wpAny_bind (m := Builtin.List.listAllItems (.ref b) "must assign iterable to extended slice") ?_
  unfold Builtin.List.listAllItems
  refine wpAny_bind (wpAny_typeOf tb.typeIs ?_)
  refine PySem.W.KFB.if_so (by decide) ?_
  unfold Builtin.List.listItems
  refine wpAny_bind (wpAny_seqItems hvs rfl (wpAny_pure ?_))
  refine wpAny_bind (wpAny_bind (wpAny_seqItems hus rfl (wpAny_pure ?_)))
  refine wpAny_bind (wpAny_of_eq ((sliceIndices_raw lo hi none us.size (by simp)).trans (congrArg (pure : Int × Int × Int → Sem (Int × Int × Int)) hb)) ?_)
  show wpAny _ _ (if ((1 : Int) == 1) = true then _ else _) _ _ s
  rw [if_pos (by decide)]
  refine wpAny_bind (wpAny_rule ?_)
  refine PySem.W.KFB.if_not (notLongL hz) ?_
  try refine wpAny_bind (wpAny_pure ?_)
  show wpAny _ _ (updateSeq l (fun xs => xs.extract 0 ((a : Int)).toNat ++ vs ++ xs.extract (max (a : Int) (c : Int)).toNat xs.size) >>= _) _ _ s
  rw [mx, Int.toNat_natCast]
  refine wpAny_bind (wpAny_updateSeq (hz := Nat.le_trans (Nat.le_add_right _ _) hz) (_hz' := hz2) hus rfl ?_)
  refine wpAny_bind (wpAny_letGo ?_)
  first
    | exact wpAny_pure ⟨.none, rfl, wpAny_pure k⟩
    | exact wpAny_bind (wpAny_pure (wpAny_pure ⟨.none, rfl, wpAny_pure k⟩))
/-- what becomes of a list -/
def splV (xs ys : List V) (lo hi : Option Int) : List V := xs.take (PySem.W.kms_lo lo xs.length) ++ ys ++ xs.drop (max (PySem.W.kms_lo lo xs.length) (PySem.W.kms_hi hi xs.length))
@[irreducible] def mSetSl (o : V) (lo hi : Option Int) (v : V) (H : Hp) (Q : Hp → Prop) : Prop := ∃ l b xs ys, o = .ref l ∧ v = .ref b ∧ H l = some (.lst xs) ∧ H b = some (.lst ys) ∧ l ≠ b ∧ xs.length + ys.length ≤ 1000000 ∧ Q (upd H l (.lst (splV xs ys lo hi)))
theorem rd_setSl {l b : Addr} {xs ys : List V} {lo hi : Option Int} {H : Hp} {Q : Hp → Prop} (h1 : H l = some (.lst xs)) (h2 : H b = some (.lst ys)) (h3 : l ≠ b) (hz : xs.length + ys.length ≤ 1000000) (q : Q (upd H l (.lst (splV xs ys lo hi)))) : mSetSl (.ref l) lo hi (.ref b) H Q := by
  unfold mSetSl
  exact ⟨l, b, xs, ys, rfl, rfl, h1, h2, h3, hz, q⟩
def gSl (to : TE) (tl th : TO) : TG := fun v σ H Q => to σ H fun o H1 => tl σ H1 fun lo H2 => th σ H2 fun hi H3 => mSetSl o lo hi v H3 fun H4 => Q σ H4
theorem pg_sl {X : Cx} {o : Expr} {lo hi : Option Expr} {to : TE} {tl th : TO} {pos p2 : Pos} (ho : PE X o to) (hl : PO X lo tl) (hu : PO X hi th)
    (ha : ∀ v, assign (.Subscript o (.Slice lo hi none p2) pos) X.env v = (do
      let a ← holding [v] (eval o X.env)
      let b ← holding [v, a] (eval (.Slice lo hi none p2) X.env)
      standAt pos
      holding [v, a, b] (setItem a b v)
      release [b, v, a] []) := by intro _; rfl) : PG X (.Subscript o (.Slice lo hi none p2) pos) (gSl to tl th) := by
  refine ⟨fun pins s σ H v u Q I r h => ?_⟩
  rw [ha]
  refine wpAny_bind (wpAny_holding (thn (ho.run pins s σ H _ I h) fun ov s1 ⟨x, H1, I1, r1, q1⟩ => ?_))
  refine wpAny_bind (wpAny_holding (wpAny_Slice (thn (hl.run pins s1 σ H1 _ I1 q1) fun vl s2 ⟨lo', H2, I2, pl, q2⟩ => thn (hu.run pins s2 σ H2 _ I2 q2) fun vu s3 ⟨hi', H3, I3, pu, q3⟩ => ?_)))
  rw [evalPart_none]
  refine wpAny_pure ?_
  unfold mSetSl at q3
  obtain ⟨l, b, xs, ys, rfl, rfl, h1, h2, h3, hz, q⟩ := q3
  have I4 : Inv X pins σ H3 { s3 with heap := s3.heap.push { cls := .type "slice", data := .fields #[vl, vu, .none] } } := I3.kept (t' := s3.toks) fun b ob q => Heap.get?_push_of_some _ q
  cases r1
  cases r
  obtain ⟨z, its, n, rv, hl1, e1⟩ := I4.lstM h1
  obtain ⟨z2, its2, n2, rv2, hl2, e2⟩ := I4.lstM h2
  have hn1 : its.toArray.size = xs.length := by rw [List.size_toArray]; exact rv.length.symm
  have hn2 : its2.toArray.size = ys.length := by rw [List.size_toArray]; exact rv2.length.symm
  refine wpAny_bind (wpAny_standAt (wpAny_bind (wpAny_holding ?_)))
  refine setSl_at e1 e2 h3 (Heap.IsSliceOf.new ..) pl pu (by rw [hn1, hn2]; exact sz hz) ?_
  rw [hn1]
  refine wpAny_release ⟨σ, _, I4.lset (its' := its.take (PySem.W.kms_lo lo' xs.length) ++ its2 ++ its.drop (max (PySem.W.kms_lo lo' xs.length) (PySem.W.kms_hi hi' xs.length))) (t' := s3.toks) h1 e1 ?_ (Vals.append (Vals.append (rv.take _) rv2) (rv.drop _)) ?_, q⟩
  · exact spl_arr its its2 _ _
  · have e3 := List.length_take_le (PySem.W.kms_lo lo' xs.length) xs
    refine sz ?_
    rw [List.length_append, List.length_append, List.length_take, List.length_drop]
    omega
end
theorem splV_all (xs ys : List V) : splV xs ys none none = ys := by
  show xs.take 0 ++ ys ++ xs.drop (max 0 xs.length) = ys
  rw [Nat.zero_max, List.drop_length, List.take_zero, List.append_nil, List.nil_append]
theorem splV_to (xs ys : List V) {k : Int} (h : 0 ≤ k) : splV xs ys none (some k) = ys ++ xs.drop k.toNat := by
  have e : PySem.W.kms_hi (some k) xs.length = min k.toNat xs.length := by
    show (if k < 0 then _ else _) = _
    rw [if_neg (by omega)]
  show xs.take 0 ++ ys ++ xs.drop (max 0 (PySem.W.kms_hi (some k) xs.length)) = _
  rw [e, Nat.zero_max, List.take_zero, List.nil_append]
  by_cases h2 : k.toNat ≤ xs.length
  · rw [Nat.min_eq_left h2]
  · rw [Nat.min_eq_right (by omega), List.drop_length, List.drop_of_length_le (by omega)]
/-- objects that came with the last step join what stays -/
theorem Own.adopt2 {S B0 B H : Hp} {as : List Addr} {l : List (Addr × HO)} (w : Own S B0 as B l H) (ps : List Addr) (hp : ∀ p ∈ ps, S p = none ∧ H p ≠ none ∧ p ∉ l.map Prod.fst) : ∃ B', Same B B' ∧ (∀ p ∈ ps, B' p = H p) ∧ Own S B0 as B' l H := by
  have sb : Same B (fun b => if b ∈ ps then H b else B b) := fun b o h => by
    show (if b ∈ ps then H b else B b) = some o
    split
    · exact w.c.imm _ _ h
    · exact h
  refine ⟨fun b => if b ∈ ps then H b else B b, sb, fun p h => if_pos h, ⟨w.c.cell, w.c.nd, fun b u h => ?_, fun a u h => ?_⟩, w.kept, w.own, w.grow.trans sb, fun b h k => ?_, w.there⟩
  · have h2 : (if b ∈ ps then H b else B b) = some u := h
    split at h2
    · exact h2
    · exact w.c.imm _ _ h2
  · show (if a ∈ ps then H a else B a) = none
    rw [if_neg (fun z => (hp a z).2.2 (mem_fst h))]
    exact w.c.dis a u h
  · by_cases hb : b ∈ ps
    · exact (hp b hb).1
    · have k2 : (if b ∈ ps then H b else B b) ≠ none := k
      rw [if_neg hb] at k2
      exact w.new b h k2
/-- a list of copies: it is a cell, the copies stay -/
theorem Own.cpy {S B0 B H H' : Hp} {as : List Addr} {l : List (Addr × HO)} {D : Addr} {qs : List Addr} {xss : List (List Int)} (w : Own S B0 as B l H) (hD : H D = none) (c : Cpy H D qs xss H') :
    ∃ B', Same B B' ∧ LLs B' qs xss ∧ Own S B0 as B' ((D, .lst (qs.map V.ref)) :: l) H' := by
  have w1 := w.add hD c.sm c.at'
  obtain ⟨B', s, e, w2⟩ := w1.adopt2 qs fun p hp => by
    refine ⟨(w.frS (c.fr p hp).1).1, ?_, fun h => ?_⟩
    · obtain ⟨x, _, hx⟩ := c.ls.mem hp
      rw [hx]
      exact fun z => (nomatch z)
    · rcases List.mem_cons.mp h with h | h
      · exact (c.fr p hp).2 h
      · obtain ⟨o, h⟩ := fst_mem h
        exact w.notin (c.fr p hp).1 h
  exact ⟨B', s, c.ls.stay e, w2⟩
/-- a list of copies, all of it stays -/
theorem Own.cpyR {S B0 B H H' : Hp} {as : List Addr} {l : List (Addr × HO)} {D : Addr} {qs : List Addr} {xss : List (List Int)} (w : Own S B0 as B l H) (hD : H D = none) (c : Cpy H D qs xss H') :
    ∃ B', Same B B' ∧ LLs B' qs xss ∧ B' D = some (.lst (qs.map V.ref)) ∧ Own S B0 as B' l H' := by
  obtain ⟨B', s, h, w2⟩ := w.cpy hD c
  obtain ⟨B2, s2, e2, w3⟩ := w2.ice (w.frS hD).1
  exact ⟨B2, s.trans s2, h.mono s2, e2, w3⟩
/-- [e for x in xs], each element a value, the heap grown at most -/
theorem wl_vals {K : PySem.W.Frag} {j : Nat} {te : TE} {σ : L2.St} {H1 : Hp} {Q : VK} {a : Addr} (xs : List V) (f : Nat → V) (hx : SqL K H1 a xs) (hn : xs.length ≤ 100000)
    (ht : ∀ (i : Nat) (y : V), xs[i]? = some y → ∀ (H' : Hp) (R : VK), Same H1 H' → (∀ H'', Same H' H'' → R (f i) H'') → te ((wipe σ [j]).set j (some y)) H' R) (hq : NewO (.lst ((List.range xs.length).map f)) H1 Q) :
    LcWP (Itl K a) (gName j) tYes te [j] σ Q H1 := by
  refine wl_list xs hn fun D hD => ⟨fun i acc H' => acc = (List.range i).map f ∧ Same H1 H', ⟨rfl, same_upd hD⟩, fun i acc H' _ _ _ p => p.2.seq hx, fun i acc y H' hi ha h2 p => ?_, fun acc H' ha h2 p => ?_⟩
  · obtain ⟨rfl, p⟩ := p
    show _ ∧ _
    refine ⟨wipe_set rfl, ?_⟩
    show Br true _ _
    refine br_T (ht i y hi H' _ p fun H'' s => ⟨s _ _ h2, ?_, same_mut (p.trans s) hD⟩)
    rw [List.range_succ, List.map_append]
    rfl
  · obtain ⟨rfl, p⟩ := p
    exact hq D H' hD p h2
section
variable {X : Cx} {K : PySem.W.Frag}
theorem call_listK (h : X.K = K) : CallR X (.type "list") (mListOf K) := h ▸ call_listM
theorem sl_listK (h : X.K = K) : SlR X (mSlL K) := h ▸ sl_listM
theorem call_tupOfK (h : X.K = K) : CallR X (.type "tuple") (mTupOf K) := h ▸ call_tupOfM
end
theorem snocI (ns : List Int) (n : Int) : ns.map V.int ++ [V.int n] = (ns ++ [n]).map V.int := by
  rw [List.map_append]
  rfl
theorem snocR (ns : List Addr) (n : Addr) : ns.map V.ref ++ [V.ref n] = (ns ++ [n]).map V.ref := by
  rw [List.map_append]
  rfl
/-- a name is set: the frame as it stands then -/
theorem frG {i : Nat} {v : V} {σ σ' : L2.St} {H : Hp} {D : L2.St → Hp → Prop} (e : σ.set i (some v) = σ') (h : D σ' H) : gName i v σ H D := by
  subst e
  exact h
/-! ### lists of new tuples -/
inductive TLs (H : Hp) : List Addr → List (List V) → Prop
  | nil : TLs H [] []
  | cons {p : Addr} {ps : List Addr} {x : List V} {r : List (List V)} (h : H p = some (.tup x)) (t : TLs H ps r) : TLs H (p :: ps) (x :: r)
section
variable {H H' : Hp} {ps : List Addr} {xs : List (List V)} {p : Addr} {x : List V}
theorem TLs.mono (h : TLs H ps xs) (s : Same H H') : TLs H' ps xs := by
  induction h with
  | nil => exact .nil
  | cons h _ ih => exact .cons (s _ _ h) ih
theorem TLs.stay (h : TLs H ps xs) (s : ∀ p ∈ ps, H' p = H p) : TLs H' ps xs := by
  induction h with
  | nil => exact .nil
  | cons h _ ih => exact .cons ((s _ List.mem_cons_self).trans h) (ih fun p hp => s p (List.mem_cons_of_mem _ hp))
theorem TLs.snoc (h : TLs H ps xs) (e : H p = some (.tup x)) : TLs H (ps ++ [p]) (xs ++ [x]) := by
  induction h with
  | nil => exact .cons e .nil
  | cons h _ ih => exact .cons h ih
theorem TLs.len (h : TLs H ps xs) : ps.length = xs.length := by
  induction h with
  | nil => rfl
  | cons _ _ ih => rw [List.length_cons, List.length_cons, ih]
theorem TLs.mem (h : TLs H ps xs) (hp : p ∈ ps) : ∃ x ∈ xs, H p = some (.tup x) := by
  induction h with
  | nil => cases hp
  | cons h _ ih =>
    rcases List.mem_cons.mp hp with e | z
    · rw [e]
      exact ⟨_, .head _, h⟩
    · obtain ⟨y, h1, h2⟩ := ih z
      exact ⟨y, .tail _ h1, h2⟩
theorem TLs.at (h : TLs H ps xs) {i : Nat} (hp : ps[i]? = some p) : ∃ x, xs[i]? = some x ∧ H p = some (.tup x) := by
  induction h generalizing i with
  | nil => cases hp
  | cons h _ ih =>
    cases i with
    | zero => exact ⟨_, rfl, (Option.some.inj hp) ▸ h⟩
    | succ i => exact ih hp
theorem TLs.app {qs : List Addr} {ys : List (List V)} (h : TLs H ps xs) (k : TLs H qs ys) : TLs H (ps ++ qs) (xs ++ ys) := by
  induction h with
  | nil => exact k
  | cons h _ ih => exact .cons h ih
end
structure NT (H1 : Hp) (D : Addr) (ps : List Addr) (xs : List (List V)) (H' : Hp) : Prop where
  sm : Same H1 H'
  at' : H' D = some (.lst (ps.map V.ref))
  ls : TLs H' ps xs
  fr : ∀ p ∈ ps, H1 p = none
theorem NT.start {H1 : Hp} {D : Addr} (hD : H1 D = none) : NT H1 D [] [] (upd H1 D (.lst [])) := ⟨same_upd hD, upd_same, .nil, fun p hp => (nomatch hp)⟩
theorem NT.next {H1 H' H2 : Hp} {D t : Addr} {ps : List Addr} {xs : List (List V)} {x : List V} (w : NT H1 D ps xs H') (hD : H1 D = none) (nt : H' t = none) (s : Same H' H2) (e : H2 t = some (.tup x)) :
    NT H1 D (ps ++ [t]) (xs ++ [x]) (upd H2 D (.lst (ps.map V.ref ++ [.ref t]))) := by
  have hD2 := s _ _ w.at'
  have htD : ∀ {q : Addr} {y : List V}, H2 q = some (.tup y) → q ≠ D := fun {q y} h z => by
    rw [z, hD2] at h
    cases h
  refine ⟨same_mut (w.sm.trans s) hD, ?_, ?_, fun y hy => ?_⟩
  · rw [upd_same, List.map_append]
    rfl
  · refine TLs.snoc ((w.ls.mono s).stay fun y hy => upd_ne ?_) ?_
    · obtain ⟨z, _, h⟩ := w.ls.mem hy
      exact htD (s _ _ h)
    · rw [upd_ne (htD e)]
      exact e
  · rcases List.mem_append.mp hy with h | h
    · exact w.fr y h
    · rw [List.mem_singleton.mp h]
      exact same_none w.sm nt
theorem NT.back {H0 H1 H' : Hp} {D : Addr} {ps : List Addr} {xs : List (List V)} (w : NT H1 D ps xs H') (s : Same H0 H1) : NT H0 D ps xs H' := ⟨s.trans w.sm, w.at', w.ls, fun p hp => same_none s (w.fr p hp)⟩
/-- all of a list of new tuples stays -/
theorem Own.nt {S B0 B H H' : Hp} {as : List Addr} {l : List (Addr × HO)} {D : Addr} {ps : List Addr} {xs : List (List V)} (w : Own S B0 as B l H) (hD : H D = none) (c : NT H D ps xs H') :
    ∃ B', Same B B' ∧ B' D = some (.lst (ps.map V.ref)) ∧ TLs B' ps xs ∧ Own S B0 as B' l H' := by
  obtain ⟨B', s, e, w2⟩ := (w.more c.sm).adopt2 (D :: ps) fun p hp => by
    have hn : H p = none ∧ H' p ≠ none := by
      rcases List.mem_cons.mp hp with h | h
      · rw [h]
        exact ⟨hD, by rw [c.at']; exact fun z => (nomatch z)⟩
      · obtain ⟨x, _, hx⟩ := c.ls.mem h
        exact ⟨c.fr p h, by rw [hx]; exact fun z => (nomatch z)⟩
    refine ⟨(w.frS hn.1).1, hn.2, fun h => ?_⟩
    obtain ⟨o, h⟩ := fst_mem h
    exact w.notin hn.1 h
  exact ⟨B', s, (e D (.head _)).trans c.at', c.ls.stay fun p hp => e p (.tail _ hp), w2⟩
/-- [(..) for x in xs]: the i-th tuple is f i -/
theorem wl_tups {K : PySem.W.Frag} {j : Nat} {te : TE} {σ : L2.St} {H1 : Hp} {Q : VK} {a : Addr} (xs : List V) (f : Nat → List V) (hx : SqL K H1 a xs) (hn : xs.length ≤ 100000)
    (ht : ∀ (i : Nat) (y : V), xs[i]? = some y → ∀ (H' : Hp) (R : VK), Same H1 H' → NewO (.tup (f i)) H' R → te ((wipe σ [j]).set j (some y)) H' R) (hq : ∀ D ps H', H1 D = none → NT H1 D ps ((List.range xs.length).map f) H' → Q (.ref D) H') :
    LcWP (Itl K a) (gName j) tYes te [j] σ Q H1 := by
  refine wl_list xs hn fun D hD => ⟨fun i acc H' => ∃ ps, acc = ps.map V.ref ∧ NT H1 D ps ((List.range i).map f) H', ⟨[], rfl, NT.start hD⟩, fun i acc H' _ _ _ p => ?_, fun i acc y H' hi ha h2 p => ?_, fun acc H' ha h2 p => ?_⟩
  · obtain ⟨ps, rfl, p⟩ := p
    exact p.sm.seq hx
  · obtain ⟨ps, rfl, p⟩ := p
    show _ ∧ _
    refine ⟨wipe_set rfl, ?_⟩
    show Br true _ _
    refine br_T (ht i y hi H' _ p.sm fun t H'' nt s e => ⟨s _ _ h2, ps ++ [t], by rw [List.map_append]; rfl, ?_⟩)
    rw [List.range_succ, List.map_append]
    exact p.next hD nt s e
  · obtain ⟨ps, rfl, p⟩ := p
    exact hq D ps H' hD p
/-! ### a comprehension over a dict, which is locked meanwhile -/
@[irreducible] def mLcD (i : Nat) (g : TG) (tt : TT) (te : TE) (vs : List Nat) : TE := tLockE (mLcW (iKeys fun σ H Q => ∃ v, σ[i]? = some (some v) ∧ Q v H) g tt te vs)
theorem pe_lcD {X : Cx} {tg it elt : Expr} {ifs : List Expr} {scope : Scope} {own : List (Str × Nat)} {g : TG} {tt : TT} {te : TE} {i : Nat} {pos : Pos} (vs : List Nat) (hc : X.calm = true) (hN : X.N.Nodup) (ha : PE X it (fun σ H Q => ∃ v, σ[i]? = some (some v) ∧ Q v H)) (ok : BlkOk X.N X.env.scope scope own)
    (hg : ∀ (s : Shared) (H : Hp) (C : Addr) (cl : List (Str × Addr)) (fp : List Addr), PG (X.blk s H scope (compEnvC scope cl C X.env) fp) tg g) (ht : ∀ (s : Shared) (H : Hp) (C : Addr) (cl : List (Str × Addr)) (fp : List Addr), PTs (X.blk s H scope (compEnvC scope cl C X.env) fp) ifs tt)
    (he : ∀ (s : Shared) (H : Hp) (C : Addr) (cl : List (Str × Addr)) (fp : List Addr), PE (X.blk s H scope (compEnvC scope cl C X.env) fp) elt te) (hvs : own.map (·.2) = vs := by rfl) (hs : ∀ x, foldedSetIterable it X.env x = pure x := by intro _; rfl) :
    PE X (.ListComp elt [⟨tg, it, ifs, 0⟩] scope pos) (mLcD i g tt te vs) :=
  pe_weak (pe_lock (pe_lcW vs im_keys hc hN (pi_keys (pe_c ha)) ok hg ht he hvs hs)) fun σ H Q q => by
    unfold mLcD at q
    exact q
/-- what the turns see: the dict to be read, all else that was there -/
structure DSee (d : Addr) (kvs : List (Key × V)) (H H' : Hp) : Prop where
  rd : Rd H' d (.dK kvs)
  but : ∀ b o, b ≠ d → H b = some o → H' b = some o
theorem DSee.more {d : Addr} {kvs : List (Key × V)} {H H' H2 : Hp} (w : DSee d kvs H H') (s : Same H' H2) : DSee d kvs H H2 := ⟨by
  rcases w.rd with h | ⟨o, h⟩
  · exact .inl (s _ _ h)
  · exact .inr ⟨o, s _ _ h⟩, fun b o hb h => s _ _ (w.but b o hb h)⟩
theorem rd_lcDT {i j : Nat} {tt : TT} {te : TE} {σ : L2.St} {H : Hp} {Q : VK} (d : Addr) (kvs : List (Key × V)) (ns : List Int) (keep : Int → Bool) (f : Int → List V) (h1 : σ[i]? = some (some (.ref d))) (h2 : H d = some (.dK kvs)) (h3 : kvs.map Prod.fst = ns.map Sum.inl) (h4 : ns.length ≤ 100000)
    (ht : ∀ n, n ∈ ns → ∀ (H' : Hp) (R : Bool → Hp → Prop), DSee d kvs H H' → (∀ H'', Same H' H'' → R (keep n) H'') → tt ((wipe σ [j]).set j (some (.int n))) H' R)
    (he : ∀ n, n ∈ ns → keep n = true → ∀ (H' : Hp) (R : VK), DSee d kvs H H' → NewO (.tup (f n)) H' R → te ((wipe σ [j]).set j (some (.int n))) H' R)
    (hq : ∀ D ps H', H D = none → NT H D ps ((ns.filter keep).map f) H' → Q (.ref D) H') : mLcD i (gName j) tt te [j] σ H Q := by
  unfold mLcD
  have hkl : kvs.length = ns.length := by
    have e := congrArg List.length h3
    rw [List.length_map, List.length_map] at e
    exact e
  refine ⟨d, .dK kvs, h2, trivial, fun od => ?_⟩
  unfold mLcW
  refine ⟨.ref d, h1, d, od, rfl, .inl ⟨kvs, upd_same, ?_⟩⟩
  have nd : ∀ {p : Addr}, (upd H d (.frz od (.dK kvs))) p = none → p ≠ d := fun z e => by
    rw [e, upd_same] at z
    cases z
  have see : ∀ {H'}, Same (upd H d (.frz od (.dK kvs))) H' → DSee d kvs H H' := fun s => ⟨.inr ⟨od, s _ _ upd_same⟩, fun b o hb h => s _ _ (by rw [upd_ne hb]; exact h)⟩
  unfold LcWP
  refine ⟨kvs.length, _, _, walk_keys (d := d) (o := od) (kvs := kvs), by omega, fun D hD => ⟨fun k acc H' => ∃ ps, acc = ps.map V.ref ∧ NT (upd H d (.frz od (.dK kvs))) D ps (((ns.take k).filter keep).map f) H', ⟨[], rfl, NT.start hD⟩, fun k acc H' _ _ _ p => ?_, fun k acc y H' H'' hk ha h5 p w => ?_, fun acc H' ha h5 p => ?_⟩⟩
  · obtain ⟨ps, rfl, p⟩ := p
    exact p.sm _ _ upd_same
  · obtain ⟨ps, rfl, p⟩ := p
    obtain ⟨rfl, ky, vy, hkv, rfl⟩ := w
    have hk2 : k < ns.length := by omega
    have hn : ns[k]? = some ns[k] := List.getElem?_eq_getElem hk2
    have ek : ky = Sum.inl ns[k] := by
      have z : (kvs.map Prod.fst)[k]? = (ns.map (Sum.inl (β := Str)))[k]? := by rw [h3]
      rw [List.getElem?_map, List.getElem?_map, hkv, hn] at z
      exact Option.some.inj z
    subst ek
    have hin : ns[k] ∈ ns := List.getElem_mem hk2
    show _ ∧ _
    refine ⟨wipe_set rfl, ?_⟩
    refine ht _ hin _ _ (see p.sm) fun H2 s2 => ?_
    have st : ns.take (k + 1) = ns.take k ++ [ns[k]] := take_snoc hn
    cases hb : keep ns[k] with
    | true =>
      refine br_T (he _ hin hb H2 _ (see (p.sm.trans s2)) fun t H3 nt s3 e3 => ⟨s3 _ _ (s2 _ _ h5), ps ++ [t], by rw [List.map_append]; rfl, ?_⟩)
      have p2 : NT (upd H d (.frz od (.dK kvs))) D ps (((ns.take k).filter keep).map f) H2 := ⟨p.sm.trans s2, s2 _ _ p.at', p.ls.mono s2, p.fr⟩
      have e4 : ((ns.take (k + 1)).filter keep).map f = ((ns.take k).filter keep).map f ++ [f ns[k]] := by
        rw [st, List.filter_append, List.map_append, List.filter_cons, if_pos hb]
        rfl
      rw [e4]
      exact p2.next hD nt s3 e3
    | false =>
      refine br_F ⟨s2 _ _ h5, ps, rfl, ?_⟩
      have e4 : ((ns.take (k + 1)).filter keep).map f = ((ns.take k).filter keep).map f := by
        rw [st, List.filter_append, List.filter_cons, if_neg (by rw [hb]; decide), List.filter_nil, List.append_nil]
      rw [e4]
      exact ⟨p.sm.trans s2, s2 _ _ p.at', p.ls.mono s2, p.fr⟩
  · obtain ⟨ps, rfl, p⟩ := p
    rw [hkl, List.take_length] at p
    have hDd : D ≠ d := nd hD
    have hps : ∀ q ∈ ps, q ≠ d := fun q hq => nd (p.fr q hq)
    refine ⟨p.sm _ _ upd_same, hq D ps _ (by rw [upd_ne hDd] at hD; exact hD) ⟨fun b o hb => ?_, ?_, ?_, fun q hq => ?_⟩⟩
    · by_cases hbd : b = d
      · subst hbd
        rw [upd_same]
        rw [h2] at hb
        exact hb
      · rw [upd_ne hbd]
        exact p.sm _ _ (by rw [upd_ne hbd]; exact hb)
    · rw [upd_ne hDd]
      exact p.at'
    · exact p.ls.stay fun q hq => upd_ne (hps q hq)
    · have := p.fr q hq
      rw [upd_ne (hps q hq)] at this
      exact this
/-- dict(ps), ps a list of pairs -/
@[irreducible] def mDictP (K : PySem.W.Frag) : List V → Hp → VK → Prop := fun xs H Q => ∃ (a : Addr) (ps : List Addr) (kvs : List (Key × V)), xs = [.ref a] ∧ SqL K H a (ps.map V.ref) ∧ Paired (fun p kv => SqT K H p [kV kv.1, kv.2]) ps kvs ∧ NewO (.dK (mergeK [] kvs)) H Q
theorem call_dictPM {X : Cx} (hc : X.calm = true) : CallR X (.type "dict") (mDictP X.K) := fun pins s σ H xs us Q I r q => call_dictP hc pins s σ H xs us Q I r (by
  unfold mDictP at q
  obtain ⟨a, ps, kvs, e, h1, h2, h3⟩ := q
  exact ⟨a, ps, kvs, e, h1, h2, h3.go⟩)
theorem paired_tls {K : PySem.W.Frag} {H : Hp} : ∀ {ps : List Addr} {kvs : List (Key × V)}, TLs H ps (kvs.map fun kv => [kV kv.1, kv.2]) → Paired (fun p kv => SqT K H p [kV kv.1, kv.2]) ps kvs
  | _, [], h => by
    cases h
    exact .nil
  | _, kv :: r, h => by
    cases h with
    | cons h t => exact .cons (st_of h) (paired_tls t)
theorem putK_app : ∀ {kvs more : List (Key × V)} {k : Key} {v : V}, k ∉ kvs.map Prod.fst → putK kvs k v = kvs ++ [(k, v)] := fun {kvs more k v} h => putK_new _ (by
  induction kvs with
  | nil => rfl
  | cons x r ih =>
    rw [List.map_cons] at h
    rw [valV_neg (fun e => h (e ▸ .head _))]
    exact ih fun z => h (.tail _ z))
theorem mergeK_app : ∀ (kvs more : List (Key × V)), ((kvs ++ more).map Prod.fst).Nodup → mergeK kvs more = kvs ++ more
  | kvs, [], _ => by rw [List.append_nil]; rfl
  | kvs, (k, v) :: r, nd => by
    have h : k ∉ kvs.map Prod.fst := fun z => by
      rw [List.map_append] at nd
      exact (List.nodup_append.mp nd).2.2 k z k (.head _) rfl
    show mergeK (putK kvs k v) r = _
    rw [putK_app (more := []) h]
    have e : kvs ++ (k, v) :: r = (kvs ++ [(k, v)]) ++ r := by rw [List.append_assoc]; rfl
    rw [e] at nd ⊢
    exact mergeK_app _ r nd
theorem rd_dictP {K : PySem.W.Frag} {H : Hp} {Q : VK} {a : Addr} {ps : List Addr} {kvs : List (Key × V)} (h1 : SqL K H a (ps.map V.ref)) (h2 : TLs H ps (kvs.map fun kv => [kV kv.1, kv.2])) (nd : (kvs.map Prod.fst).Nodup) (q : NewO (.dK kvs) H Q) : mDictP K [.ref a] H Q := by
  unfold mDictP
  refine ⟨a, ps, kvs, rfl, h1, paired_tls h2, ?_⟩
  rw [mergeK_app [] kvs nd]
  exact q
/-! ### o.m(e, ..) that may raise, within a try -/
def mMethT (C : Addr) (m : Str) (sp : Sp) (E : L2.St → XK) (ta : TE) (t : TA) : TE := fun σ H Q => ta σ H fun x H1 => mIns C m x H1 (t σ H1 fun vs H2 => sp (x :: vs) H2 Q (E σ))
section
open PySem.Spec PyProof.Rows
variable {X : Cx} {CX : CXT} {k : Nat} {C g : Addr} {fd : FuncData} {ps : List Str} {sp : Sp} {E : L2.St → XK} {m : Str} {e o : Expr} {es : List Expr} {ta : TE} {t : TA} {apos cpos : Pos} {pl : Sem Bool}
theorem pe_methT (ho : PE X o ta) (c : Cls X.K C) (hm : Meth X.K C m g) (F : FnOk X.prog X.w X.K X.mg X.base CX k g fd ps sp) (hr : Room k X.A) (hb : Binds X.K fd ps []) (hx : ∀ σ, PassesAt CX X σ (E σ)) (ha : PA X (e :: es) t)
    (hst : starEach (e :: es) X.env = (false, eval e X.env) :: starEach es X.env := by rfl) (hpl : (backTo cpos (starEach es X.env)).any (·.1) = false := by rfl)
    (ht : eval (.Call (.Attribute o m apos) (e :: es) [] cpos) X.env = (do
      let v ← eval o X.env
      standAt apos.atName
      let (a, b) ← holding [v] (getMethod v m pl)
      callWith cpos a b (backTo cpos (starEach (e :: es) X.env)) (backToKw cpos (keywordEach [] X.env))) := by rfl) : PE X (.Call (.Attribute o m apos) (e :: es) [] cpos) (mMethT C m sp E ta t) := by
  refine ⟨fun pins s σ H Q I z => ?_⟩
  refine PySem.W.methodCall_KW (pl := pl) (thn ((pe_c ho).run pins s σ H _ I ⟨_, z, fun v H' y => y⟩) fun u s1 ⟨v, H1, I1, rv, y⟩ => ?_) ht
  unfold mIns at y
  obtain ⟨a, dx, fs, rfl, ea, l, y⟩ := y
  obtain rfl : u = Value.ref a := rv
  refine getmeth_ok I1 ea c hm l ?_
  refine PySem.W.callWith_K (first := [.ref a]) (h₀ := X.base) I.ok.mod.kin hm.kp (thn (ha.run cpos pins s1 σ H1 _ I1 y) fun us s2 ⟨ws, H2, I2, r, y2⟩ => ⟨I2.kIn, ?_⟩) hst hpl
  exact run_fnS (us := .ref a :: us) (vs := .ref a :: ws) F hr hb (hx σ) I2 (.cons rfl r) y2
end
theorem Own.addR {S B0 B H H' : Hp} {as : List Addr} {l : List (Addr × HO)} {p : Addr} {o : HO} (w : Own S B0 as B l H) (n : H p = none) (s : Same H H') (e : H' p = some o) : Own S B0 as B (l ++ [(p, o)]) H' :=
  (w.add n s e).perm List.perm_append_comm
theorem Own.loose {S B0 B H H2 H3 : Hp} {as : List Addr} {l : List (Addr × HO)} (w : Own S B0 as B l H) (s : Same H H2) (ps : List Addr) (hp : ∀ p ∈ ps, H p = none) (k : ∀ b o, b ∉ ps → H2 b = some o → H3 b = some o) : Own S B0 as B l H3 := by
  have old : ∀ {b o}, H b = some o → H3 b = some o := fun {b o} h => k b o (fun z => by rw [hp b z] at h; cases h) (s _ _ h)
  refine ⟨⟨fun a u h => old (w.c.cell a u h), w.c.nd, fun b u h => old (w.c.imm b u h), w.c.dis⟩, fun b u hb h => old (w.kept b u hb h), w.own, w.grow, w.new, fun a h e => ?_⟩
  have h2 := w.there a h
  cases e2 : H a with
  | none => exact h2 e2
  | some u =>
    rw [old e2] at e
    cases e
theorem Own.dropR {S B0 B H : Hp} {as : List Addr} {l : List (Addr × HO)} {c : Addr × HO} (w : Own S B0 as B (l ++ [c]) H) : Own S B0 as B l H :=
  w.sub (fun _ h => List.mem_append_left _ h) (by
    have nd := w.c.nd
    rw [List.map_append] at nd
    exact (List.nodup_append.mp nd).1)
theorem LLs.nil_of {H : Hp} {xss : List (List Int)} (h : LLs H [] xss) : xss = [] := by
  cases h
  rfl
theorem LLs.nil_of' {H : Hp} {ps : List Addr} (h : LLs H ps []) : ps = [] := by
  cases h
  rfl
theorem LLs.un {H : Hp} {p : Addr} {ps : List Addr} {xss : List (List Int)} (h : LLs H (p :: ps) xss) : ∃ x r, xss = x :: r ∧ H p = some (.lst (x.map V.int)) ∧ LLs H ps r := by
  cases h with
  | cons h t => exact ⟨_, _, rfl, h, t⟩
theorem LLs.un' {H : Hp} {ps : List Addr} {x : List Int} {r : List (List Int)} (h : LLs H ps (x :: r)) : ∃ p ps', ps = p :: ps' ∧ H p = some (.lst (x.map V.int)) ∧ LLs H ps' r := by
  cases h with
  | cons h t => exact ⟨_, _, rfl, h, t⟩
theorem LLs.setAt {H : Hp} {ps : List Addr} {xss : List (List Int)} {p : Addr} {x : List Int} (h : LLs H ps xss) (e : H p = some (.lst (x.map V.int))) (i : Nat) : LLs H (ps.set i p) (xss.set i x) := by
  induction h generalizing i with
  | nil => exact .nil
  | cons h t ih =>
    cases i with
    | zero => exact .cons e t
    | succ i => exact .cons h (ih i)
theorem LLs.erase {H : Hp} {ps : List Addr} {xss : List (List Int)} (h : LLs H ps xss) (i : Nat) : LLs H (ps.eraseIdx i) (xss.eraseIdx i) := by
  induction h generalizing i with
  | nil => exact .nil
  | cons h t ih =>
    cases i with
    | zero => exact t
    | succ i => exact .cons h (ih i)
theorem LLs.get' {H : Hp} {ps : List Addr} {xss : List (List Int)} (h : LLs H ps xss) {i : Int} (h0 : 0 ≤ i) (h1 : i < (ps.length : Int)) : ∃ (p : Addr) (x : List Int), x ∈ xss ∧ ps[i.toNat]? = some p ∧ atI (ps.map V.ref) i = some (.ref p) ∧ H p = some (.lst (x.map V.int)) := by
  have h2 : i.toNat < ps.length := by omega
  have e := List.getElem?_eq_getElem h2
  obtain ⟨x, hm, hx⟩ := h.at e
  refine ⟨_, x, List.mem_of_getElem? hm, e, at_of (j := i.toNat) (by omega) ?_, hx⟩
  rw [List.getElem?_map, e]
  rfl
/-! ### min and max of one list of whole numbers -/
@[irreducible] def mMinL (K : PySem.W.Frag) : List V → Hp → VK → Prop := fun xs H Q => ∃ (a : Addr) (ns : List Int), xs = [.ref a] ∧ SqL K H a (ns.map V.int) ∧ 0 < ns.length ∧ ∀ m, m ∈ ns → (∀ y ∈ ns, m ≤ y) → Q (.int m) H
@[irreducible] def mMaxL (K : PySem.W.Frag) : List V → Hp → VK → Prop := fun xs H Q => ∃ (a : Addr) (ns : List Int), xs = [.ref a] ∧ SqL K H a (ns.map V.int) ∧ 0 < ns.length ∧ ∀ m, m ∈ ns → (∀ y ∈ ns, y ≤ m) → Q (.int m) H
theorem rd_minL {K : PySem.W.Frag} {H : Hp} {Q : VK} {a : Addr} {ns : List Int} (h : SqL K H a (ns.map V.int)) (hn : 0 < ns.length) (q : ∀ m, m ∈ ns → (∀ y ∈ ns, m ≤ y) → Q (.int m) H) : mMinL K [.ref a] H Q := by
  unfold mMinL
  exact ⟨a, ns, rfl, h, hn, q⟩
theorem rd_maxL {K : PySem.W.Frag} {H : Hp} {Q : VK} {a : Addr} {ns : List Int} (h : SqL K H a (ns.map V.int)) (hn : 0 < ns.length) (q : ∀ m, m ∈ ns → (∀ y ∈ ns, y ≤ m) → Q (.int m) H) : mMaxL K [.ref a] H Q := by
  unfold mMaxL
  exact ⟨a, ns, rfl, h, hn, q⟩
theorem call_minLM {X : Cx} (hc : X.calm = true) : CallR X (.builtin "min") (mMinL X.K) := fun pins s σ H xs us Q I r q => cr_min hc pins s σ H xs us Q I r (by
  unfold mMinL at q
  exact q)
theorem call_maxLM {X : Cx} (hc : X.calm = true) : CallR X (.builtin "max") (mMaxL X.K) := fun pins s σ H xs us Q I r q => cr_max hc pins s σ H xs us Q I r (by
  unfold mMaxL at q
  exact q)
/-! ### d.pop(k), k there -/
@[irreducible] def mDPop (x y : V) (H : Hp) (Q : VK) : Prop := ∃ a kvs k v, x = .ref a ∧ y = kV k ∧ H a = some (.dK kvs) ∧ valV kvs k = some v ∧ Q v (upd H a (.dK (dropK kvs k)))
theorem rd_dpop {a : Addr} {kvs : List (Key × V)} {n : Int} {v : V} {H : Hp} {Q : VK} (h : H a = some (.dK kvs)) (e : valV kvs (.inl n) = some v) (q : Q v (upd H a (.dK (dropK kvs (.inl n))))) : mDPop (.ref a) (.int n) H Q := by
  unfold mDPop
  exact ⟨a, kvs, .inl n, v, rfl, rfl, h, e, q⟩
def mDPopE (td ty : TE) : TE := fun σ H Q => td σ H fun x H1 => ∃ a kvs, x = .ref a ∧ H1 a = some (.dK kvs) ∧ ty σ H1 fun y H2 => mDPop x y H2 Q
theorem pe_dpopM {X : Cx} {o e : Expr} {td ty : TE} {apos cpos : Pos} (ho : PE X o td) (he : PE X e ty) (hbase : attributeBase o "pop" X.env (eval o X.env) = eval o X.env := by rfl)
    (hfew : ((backTo cpos (starEach [e] X.env)).all (fun x => !x.1) && (backToKw cpos (keywordEach [] X.env)).all (fun x => x.1.isSome) && decide (([e] : List Expr).length + ([] : List Keyword).length + (if ([] : List Keyword).isEmpty then 0 else 1) < 30)) = true := by rfl)
    (hline : (apos.endLine == cpos.line) = true := by rfl) (htr : backTo cpos (starEach [e] X.env) = [(false, eval e X.env)] := by rfl) : PE X (.Call (.Attribute o "pop" apos) [e] [] cpos) (mDPopE td ty) :=
  pe_weak (pe_dpop1 (pe_c ho) (pe_c he) ⟨hbase, hfew, hline, htr⟩) fun σ H Q q => ⟨_, q, fun x H1 r => by
    obtain ⟨a, kvs, rfl, h, r⟩ := r
    refine ⟨a, rfl, .inl ⟨kvs, .inl h⟩, _, r, fun y H2 r => ?_⟩
    unfold mDPop at r
    obtain ⟨a2, kvs2, k, v, e1, e2, h2, e3, r⟩ := r
    cases e1
    exact ⟨kvs2, k, v, h2, e2, e3, r⟩⟩
/-! ### more walks of a comprehension -/
section
variable {K : PySem.W.Frag} {tt : TT} {te : TE} {σ : L2.St} {H1 : Hp} {Q : VK} {j : Nat}
/-- [new list for x in range(lo, ..)] -/
theorem wl_newR {lo : Int} {n : Nat} (f : Nat → List Int) (hn : n ≤ 100000) (ht : ∀ i : Nat, i < n → ∀ (H' : Hp) (R : VK), Same H1 H' → NewO (.lst ((f i).map V.int)) H' R → te ((wipe σ [j]).set j (some (.int (lo + (i : Nat))))) H' R)
    (hq : ∀ D qs H', H1 D = none → Cpy H1 D qs ((List.range n).map f) H' → Q (.ref D) H') : LcWP (Itr lo n) (gName j) tYes te [j] σ Q H1 := by
  refine wl_rng hn fun D hD => ⟨fun i acc H' => ∃ qs, acc = qs.map V.ref ∧ Cpy H1 D qs ((List.range i).map f) H', ⟨[], rfl, same_upd hD, upd_same, .nil, fun q hq => (nomatch hq), List.nodup_nil⟩, fun i acc H' hi ha h2 p => ?_, fun acc H' ha h2 p => ?_⟩
  · obtain ⟨qs, rfl, p⟩ := p
    show _ ∧ _
    refine ⟨wipe_set rfl, ?_⟩
    show Br true _ _
    refine br_T (ht i hi H' _ p.sm fun q H'' nq s eq => ⟨s _ _ h2, qs ++ [q], by rw [List.map_append]; rfl, ?_⟩)
    rw [List.range_succ, List.map_append]
    exact p.next hD nq s eq
  · obtain ⟨qs, rfl, p⟩ := p
    exact hq D qs H' hD p
/-- [x for x in cs if t], whole numbers -/
theorem wl_filtI {a : Addr} (cs : List Int) (keep : Int → Bool) (hx : SqL K H1 a (cs.map V.int)) (hn : cs.length ≤ 100000) (ht : ∀ n, n ∈ cs → ∀ (H' : Hp) (R : Bool → Hp → Prop), Same H1 H' → (∀ H'', Same H' H'' → R (keep n) H'') → tt ((wipe σ [j]).set j (some (.int n))) H' R)
    (he : ∀ n, n ∈ cs → ∀ (H' : Hp) (R : VK), R (.int n) H' → te ((wipe σ [j]).set j (some (.int n))) H' R) (hq : NewO (.lst ((cs.filter keep).map V.int)) H1 Q) : LcWP (Itl K a) (gName j) tt te [j] σ Q H1 := by
  refine wl_list (cs.map V.int) (by rw [List.length_map]; exact hn) fun D hD => ⟨fun i acc H' => acc = ((cs.take i).filter keep).map V.int ∧ Same H1 H', ⟨rfl, same_upd hD⟩, fun i acc H' _ _ _ p => p.2.seq hx, fun i acc y H' hi ha h2 p => ?_, fun acc H' ha h2 p => ?_⟩
  · obtain ⟨rfl, p⟩ := p
    rw [List.getElem?_map] at hi
    obtain ⟨n, hn2, rfl⟩ := Option.map_eq_some_iff.mp hi
    have hin := List.mem_of_getElem? hn2
    show _ ∧ _
    refine ⟨wipe_set rfl, ht n hin H' _ p fun H2 s2 => ?_⟩
    cases hb : keep n with
    | true =>
      refine br_T (he n hin H2 _ ⟨s2 _ _ h2, ?_, same_mut (p.trans s2) hD⟩)
      rw [take_snoc hn2, List.filter_append, List.map_append, List.filter_cons, if_pos hb]
      rfl
    | false =>
      refine br_F ⟨s2 _ _ h2, ?_, p.trans s2⟩
      rw [take_snoc hn2, List.filter_append, List.filter_cons, if_neg (by rw [hb]; decide), List.filter_nil, List.append_nil]
  · obtain ⟨rfl, p⟩ := p
    rw [List.length_map, List.take_length] at h2
    exact hq D H' hD p h2
end
/-- all numbers below n stand in a list: it is as long -/
theorem below_len : ∀ (n : Nat) (cs : List Int), (∀ m : Nat, m < n → (m : Int) ∈ cs) → n ≤ cs.length
  | 0, _, _ => Nat.zero_le _
  | n + 1, cs, h => by
    have h1 : (n : Int) ∈ cs := h n (Nat.lt_succ_self n)
    have h2 := below_len n (cs.erase (n : Int)) fun m hm => (List.mem_erase_of_ne (by omega)).mpr (h m (by omega))
    have h3 := List.length_erase_of_mem h1
    have h4 : 0 < cs.length := List.length_pos_of_mem h1
    omega
/-! ### an if whose test is told by what it comes to -/
@[irreducible] def mIfC (c : TT) (t u : TS) : TS := fun D σ H => ∃ R : Bool → Hp → Prop, c σ H R ∧ ∀ b H1, R b H1 → Br b (t D σ H1) (u D σ H1)
theorem rd_ifC {c : TT} {t u : TS} {D : Ends} {σ : L2.St} {H : Hp} (R : Bool → Hp → Prop) (h : c σ H R) (k : ∀ b H1, R b H1 → Br b (t D σ H1) (u D σ H1)) : mIfC c t u D σ H := by
  unfold mIfC
  exact ⟨R, h, k⟩
theorem ps_ifC {X : Cx} {c : Expr} {bs us : List Stmt} {pos : Pos} {tt : TT} {t u : TS} (hc : PT X c tt) (ha : PSs X bs t) (hb : PSs X us u) : PS X (.If c bs us pos) (mIfC tt t u) := ps_weak (ps_if (pt_c hc) ha hb) fun D σ H q => by
  unfold mIfC at q
  obtain ⟨R, h, k⟩ := q
  exact ⟨R, h, fun b H1 r => (k b H1 r).un⟩
/-! ### an if whose test is told by what it comes to, and whose ends are joined -/
@[irreducible] def mIfCJ (c : TT) (t u : TS) : TS := fun D σ H => ∃ (R : Bool → Hp → Prop) (P : L2.St → Hp → Prop), c σ H R ∧ (∀ H1, R true H1 → t { D with nx := P } σ H1) ∧ (∀ H1, R false H1 → u { D with nx := P } σ H1) ∧ ∀ σ' H', P σ' H' → D.nx σ' H'
theorem rd_ifCJ {c : TT} {t u : TS} {D : Ends} {σ : L2.St} {H : Hp} (R : Bool → Hp → Prop) (P : L2.St → Hp → Prop) (h : c σ H R) (h1 : ∀ H1, R true H1 → t { D with nx := P } σ H1) (h2 : ∀ H1, R false H1 → u { D with nx := P } σ H1) (k : ∀ σ' H', P σ' H' → D.nx σ' H') : mIfCJ c t u D σ H := by
  unfold mIfCJ
  exact ⟨R, P, h, h1, h2, k⟩
theorem ps_ifCJ {X : Cx} {c : Expr} {bs us : List Stmt} {pos : Pos} {tt : TT} {t u : TS} (hc : PT X c tt) (ha : PSs X bs t) (hb : PSs X us u) : PS X (.If c bs us pos) (mIfCJ tt t u) := ps_weak (ps_if (pt_c hc) (pss_c ha) (pss_c hb)) fun D σ H q => by
  unfold mIfCJ at q
  obtain ⟨R, P, h, h1, h2, k⟩ := q
  refine ⟨R, h, fun b H1 r => ?_⟩
  cases b with
  | true => exact iteT ⟨P, h1 H1 r, k⟩
  | false => exact iteF ⟨P, h2 H1 r, k⟩
end My
namespace My
open PySem L2
/-! ### C(e, ..) that may raise, within a try -/
def tMakeS (C : Addr) (sp : Sp) (E : L2.St → XK) (t : TA) : TE := fun σ H Q => t σ H fun vs H1 => ∀ x dx, H1 x = none → H1 dx = none → dx ≠ x → sp (.ref x :: vs) (upd (upd H1 dx (.own x)) x (.ins C dx [])) (fun v H2 => v = .non ∧ Q (.ref x) H2) (E σ)
section
open PySem.Spec PyProof.Rows
variable {X : Cx} {CX : CXT} {k : Nat} {C f : Addr} {fd : FuncData} {ps : List Str} {sp : Sp} {E : L2.St → XK} {x : Str} {e : Expr} {es : List Expr} {t : TA} {p pos : Pos}
theorem run_makeS {pins : List (Addr × Obj)} {σ : L2.St} {H : Hp} {s : Shared} {Q : VK} {us : List Value} {vs : List V} (M : Mk X.K C f) (F : FnOk X.prog X.w X.K X.mg X.base CX k f fd ps sp) (hr : Room (k + 1) X.A) (hb : Binds X.K fd ps [])
    (hx : PassesAt CX X σ (E σ)) (I : Inv X pins σ H s) (r : Vals vs us)
    (h : ∀ x dx, H x = none → H dx = none → dx ≠ x → sp (.ref x :: vs) (upd (upd H dx (.own x)) x (.ins C dx [])) (fun v H2 => v = .non ∧ Q (.ref x) H2) (E σ)) :
    wpAny (model X.prog X.w) X.A (call (.ref C) us) (EP X pins σ Q) X.xe s := by
  have hq := h (s.heap.objs.size + 1) s.heap.objs.size (I.hok.fresh (Nat.le_succ _)) (I.hok.fresh (Nat.le_refl _)) (Nat.ne_of_lt (Nat.lt_succ_self _))
  have I2 := Inv.made (C := C) I
  have r2 : Vals (V.ref (s.heap.objs.size + 1) :: vs) (Value.ref (s.heap.objs.size + 1) :: us) := .cons rfl r
  have hl : (Value.ref (s.heap.objs.size + 1) :: us ++ []).length = ps.length := by
    have e := r2.length
    rw [F.len _ _ _ _ hq] at e
    rw [List.append_nil]
    exact e.symm
  have b := hb _ (Value.ref (s.heap.objs.size + 1) :: us) I2.kIn hl
  rw [List.append_nil] at b
  refine wpAny_call (make_map (f := f) I.kIn M.makes M.init (beq_iff_eq.mp M.fn) (codeAny_mono (F.run _ X.stack _ _ ⟨Value.ref (s.heap.objs.size + 1) :: us, []⟩ (Value.ref (s.heap.objs.size + 1) :: us) _ _ (E σ) (hr.make C us [])
    (I2.env0.make C us []) b r2 hq) fun r s' hq' => ?_))
  cases r with
  | error e => exact hx pins _ _ e s' I2 hq'
  | ok fl =>
    cases fl with
    | ret u =>
      obtain ⟨v, H', I3, rv, ev, q3⟩ := I2.after hq'
      subst ev
      exact ⟨rv, ⟨V.ref (s.heap.objs.size + 1), H', I3, rfl, q3⟩⟩
    | next => exact False.elim hq'
    | brk => exact False.elim hq'
    | cont => exact False.elim hq'
theorem pe_makeS (M : Mk X.K C f) (F : FnOk X.prog X.w X.K X.mg X.base CX k f fd ps sp) (hr : Room (k + 1) X.A) (hg : Gl X x) (hm : X.mg x = some (.ref C)) (hb : Binds X.K fd ps []) (hx : ∀ σ, PassesAt CX X σ (E σ))
    (ha : PA X (e :: es) t) (hdb : (x == ("__debug__" : Str)) = false := by decide) (he : starEach (e :: es) X.env = (false, eval e X.env) :: starEach es X.env := by rfl) (hpl : (backTo pos (starEach es X.env)).any (·.1) = false := by rfl) :
    PE X (.Call (.Name x p) (e :: es) [] pos) (tMakeS C sp E t) := by
  refine ⟨fun pins s σ H Q I h => ?_⟩
  refine wpAny_Call_Name_kw (ld_glob I hg hm ?_ hdb)
  refine PySem.W.callWith_K (h₀ := X.base) I.ok.mod.kin M.kp (thn (ha.run pos pins s σ H _ I h) fun us s1 ⟨vs, H1, I1, r, q⟩ => ⟨I1.kIn, ?_⟩) he hpl
  exact run_makeS M F hr hb (hx σ) I1 r q
end
/-! ### an expression told by what it comes to -/
@[irreducible] def mSay (te : TE) : TE := cTE te
theorem pe_say {X : Cx} {e : Expr} {te : TE} (h : PE X e te) : PE X e (mSay te) := by
  unfold mSay
  exact pe_c h
theorem rd_say {te : TE} {σ : L2.St} {H : Hp} {Q : VK} (P : VK) (h : te σ H P) (k : ∀ v H', P v H' → Q v H') : mSay te σ H Q := by
  unfold mSay
  exact ⟨P, h, k⟩
/-! ### the places of a list of truths that are true -/
def trues (ws : List Bool) : List Nat := (List.range ws.length).filter fun i => ws.getD i false
abbrev natI (as : List Nat) : List Int := as.map fun i : Nat => (i : Int)
theorem wl_enumB {K : PySem.W.Frag} {i1 i2 : Nat} {tt : TT} {te : TE} {σ : L2.St} {H1 : Hp} {Q : VK} {a : Addr} (ws : List Bool) (hx : SqL K H1 a (ws.map V.bl)) (hn : ws.length ≤ 100000) (h12 : i1 ≠ i2)
    (ht : ∀ (i : Nat) (b : Bool), ws[i]? = some b → ∀ (H' : Hp) (R : Bool → Hp → Prop), Same H1 H' → (∀ H'', Same H' H'' → R b H'') → tt (((wipe σ [i1, i2]).set i1 (some (.int (i : Nat)))).set i2 (some (.bl b))) H' R)
    (he : ∀ (i : Nat) (b : Bool), ws[i]? = some b → ∀ (H' : Hp) (R : VK), R (.int (i : Nat)) H' → te (((wipe σ [i1, i2]).set i1 (some (.int (i : Nat)))).set i2 (some (.bl b))) H' R)
    (hq : NewO (.lst ((natI (trues ws)).map V.int)) H1 Q) : LcWP (Ite K a) (gTup K 2 (gCons (gName i1) (gCons (gName i2) gNil))) tt te [i1, i2] σ Q H1 := by
  unfold LcWP
  refine ⟨(ws.map V.bl).length, _, _, walk_enum (K := K) (a := a) (xs := ws.map V.bl), by rw [List.length_map]; exact hn, fun D hD => ?_⟩
  refine ⟨fun i acc H' => acc = (natI ((List.range i).filter fun k => ws.getD k false)).map V.int ∧ Same H1 H', ⟨rfl, same_upd hD⟩, fun i acc H' _ _ _ p => p.2.seq hx, fun i acc x H' H'' hi ha h2 p y => ?_, fun acc H' ha h2 p => ?_⟩
  · obtain ⟨rfl, p⟩ := p
    obtain ⟨T, u, v, rfl, hT, rfl, e1, e2⟩ := y
    cases e1
    have e2 : (ws.map V.bl)[i]? = some v := e2
    rw [List.getElem?_map] at e2
    obtain ⟨b, hb, rfl⟩ := Option.map_eq_some_iff.mp e2
    have eb : ws.getD i false = b := by
      rw [List.getD_eq_getElem?_getD, hb]
      rfl
    have hDT : D ≠ T := fun e => by
      rw [e, hT] at h2
      cases h2
    refine ⟨T, [.int (i : Nat), .bl b], rfl, st_of upd_same, rfl, .int (i : Nat), [.bl b], rfl, .bl b, [], rfl, rfl, wipe2 h12, ?_⟩
    have s1 : Same H' (upd H' T (.tup [.int (i : Nat), .bl b])) := same_upd hT
    refine ht i b hb _ _ (p.trans s1) fun H2 s2 => ?_
    cases b with
    | true =>
      refine br_T (he i true hb H2 _ ⟨s2 _ _ (s1 _ _ h2), ?_, same_mut ((p.trans s1).trans s2) hD⟩)
      rw [List.range_succ, List.filter_append, List.filter_cons, if_pos eb]
      simp
    | false =>
      refine br_F ⟨s2 _ _ (s1 _ _ h2), ?_, (p.trans s1).trans s2⟩
      rw [List.range_succ, List.filter_append, List.filter_cons, if_neg (by rw [eb]; decide), List.filter_nil, List.append_nil]
  · obtain ⟨rfl, p⟩ := p
    rw [List.length_map] at h2
    exact hq D H' hD p h2
theorem nodup_lt : ∀ (n : Nat) (as : List Nat), as.Nodup → (∀ a ∈ as, a < n) → as.length ≤ n
  | 0, [], _, _ => Nat.le_refl _
  | 0, a :: _, _, h => absurd (h a (.head _)) (Nat.not_lt_zero _)
  | n + 1, as, nd, h => by
    have h2 := nodup_lt n (as.erase n) (nd.erase n) fun a ha => by
      have h3 := (nd.mem_erase_iff).mp ha
      have h4 := h a h3.2
      have h5 := h3.1
      omega
    by_cases hm : n ∈ as
    · rw [List.length_erase_of_mem hm] at h2
      omega
    · rw [List.erase_of_not_mem hm] at h2
      omega
theorem trues_nd (ws : List Bool) : (trues ws).Nodup := List.nodup_range.filter _
theorem trues_lt {ws : List Bool} {i : Nat} (h : i ∈ trues ws) : i < ws.length := List.mem_range.mp (List.mem_filter.mp h).1
theorem trues_at {ws : List Bool} {i : Nat} : i ∈ trues ws ↔ i < ws.length ∧ ws.getD i false = true := by
  unfold trues
  rw [List.mem_filter, List.mem_range]
theorem trues_len (ws : List Bool) : (trues ws).length ≤ ws.length := nodup_lt _ _ (trues_nd ws) fun a h => trues_lt h
theorem range_map_getD {α β : Type} (l : List α) (d : α) (f : α → β) : (List.range l.length).map (fun i => f (l.getD i d)) = l.map f := by
  apply List.ext_getElem?
  intro i
  rw [List.getElem?_map, List.getElem?_map]
  by_cases h : i < l.length
  · rw [List.getElem?_range h, List.getElem?_eq_getElem h]
    show some (f (l.getD i d)) = some (f l[i])
    rw [List.getD_eq_getElem?_getD, List.getElem?_eq_getElem h]
    rfl
  · rw [List.getElem?_eq_none (by rw [List.length_range]; omega), List.getElem?_eq_none (by omega)]
    rfl
theorem at_get {xs : List V} {k : Nat} {v : V} (h : xs[k]? = some v) : atI xs (k : Int) = some v := at_of (j := k) (by omega) h
theorem at_bl {ws : List Bool} {k : Nat} (h : k < ws.length) : atI (ws.map V.bl) (k : Int) = some (V.bl (ws.getD k false)) := by
  refine at_get ?_
  rw [List.getElem?_map, List.getElem?_eq_getElem h, List.getD_eq_getElem?_getD, List.getElem?_eq_getElem h]
  rfl
theorem wl_rngF {j : Nat} {tt : TT} {te : TE} {σ : L2.St} {H1 : Hp} {Q : VK} {n : Nat} (keep : Nat → Bool) (hn : n ≤ 100000) (ht : ∀ i : Nat, i < n → ∀ (H' : Hp) (R : Bool → Hp → Prop), Same H1 H' → (∀ H'', Same H' H'' → R (keep i) H'') → tt ((wipe σ [j]).set j (some (.int (i : Nat)))) H' R)
    (he : ∀ i : Nat, i < n → ∀ (H' : Hp) (R : VK), R (.int (i : Nat)) H' → te ((wipe σ [j]).set j (some (.int (i : Nat)))) H' R) (hq : NewO (.lst ((natI ((List.range n).filter keep)).map V.int)) H1 Q) : LcWP (Itr 0 n) (gName j) tt te [j] σ Q H1 := by
  refine wl_rng hn fun D hD => ⟨fun i acc H' => acc = (natI ((List.range i).filter keep)).map V.int ∧ Same H1 H', ⟨rfl, same_upd hD⟩, fun i acc H' hi ha h2 p => ?_, fun acc H' ha h2 p => ?_⟩
  · obtain ⟨rfl, p⟩ := p
    rw [Int.zero_add]
    show _ ∧ _
    refine ⟨wipe_set rfl, ht i hi H' _ p fun H2 s2 => ?_⟩
    cases hb : keep i with
    | true =>
      refine br_T (he i hi H2 _ ⟨s2 _ _ h2, ?_, same_mut (p.trans s2) hD⟩)
      rw [List.range_succ, List.filter_append, List.filter_cons, if_pos hb]
      simp
    | false =>
      refine br_F ⟨s2 _ _ h2, ?_, p.trans s2⟩
      rw [List.range_succ, List.filter_append, List.filter_cons, if_neg (by rw [hb]; decide), List.filter_nil, List.append_nil]
  · obtain ⟨rfl, p⟩ := p
    exact hq D H' hD p h2
theorem rd_isiNB {K : PySem.W.Frag} {H : Hp} {Q : VK} (h : Q (.bl false) H) : mIsi K [.non, .ty "bool"] H Q := by
  unfold mIsi
  exact ⟨_, _, _, _, false, rfl, ClsV.ty _, TyX.base TyOf.non, by rfl, h⟩
theorem sum_set : ∀ (l : List Int) (i : Nat) (x : Int), i < l.length → (l.set i x).sum = l.sum - l.getD i 0 + x
  | [], i, x, h => absurd h (Nat.not_lt_zero _)
  | a :: l, 0, x, _ => by
    rw [List.set_cons_zero, List.sum_cons, List.sum_cons]
    show x + l.sum = a + l.sum - a + x
    omega
  | a :: l, i + 1, x, h => by
    have h2 := sum_set l i x (Nat.lt_of_succ_lt_succ h)
    rw [List.set_cons_succ, List.sum_cons, List.sum_cons, h2]
    show a + (l.sum - l.getD i 0 + x) = a + l.sum - l.getD i 0 + x
    omega
theorem rng1_ok {n : Nat} {A : Prop} (h : n ≤ 100000) (hA : A) : -(2 ^ 62) ≤ (n : Int) ∧ (n : Int) < 2 ^ 62 ∧ A := by
  have big : (2 : Int) ^ 62 = 4611686018427387904 := by decide
  rw [big]
  exact ⟨by omega, by omega, hA⟩
theorem rng2_ok {i j : Int} {A : Prop} (h : -100000 ≤ i ∧ i ≤ 100000 ∧ -100000 ≤ j ∧ j ≤ 100000) (hA : A) : (-(2 ^ 62) ≤ i ∧ i < 2 ^ 62 ∧ -(2 ^ 62) ≤ j ∧ j < 2 ^ 62) ∧ A := by
  have big : (2 : Int) ^ 62 = 4611686018427387904 := by decide
  rw [big]
  exact ⟨⟨by omega, by omega, by omega, by omega⟩, hA⟩
theorem map_getD_range {α : Type} (l : List α) (d : α) : (List.range l.length).map (fun i => l.getD i d) = l := (range_map_getD l d id).trans (List.map_id l)
/-- what is owned, in another order (is: the places) -/
theorem Own.reorder {S B0 B H : Hp} {as : List Addr} {l : List (Addr × HO)} (w : Own S B0 as B l H) (is : List Nat) (hn : l.length = is.length := by rfl) (h : is.Perm (List.range is.length) := by decide +kernel) : Own S B0 as B (is.map fun i => l.getD i (0, .lst [])) H := by
  refine w.perm ((h.map _).trans ?_)
  rw [← hn, map_getD_range]
theorem Own.pre {S B0 B H : Hp} {as : List Addr} {l l2 : List (Addr × HO)} (w : Own S B0 as B (l ++ l2) H) : Own S B0 as B l H := w.sub (fun _ hc => List.mem_append_left _ hc) (by
  have nd := w.c.nd
  rw [List.map_append] at nd
  exact (List.nodup_append.mp nd).1)
/-- some of what is owned (is: their places; rest: the others') -/
theorem Own.pick {S B0 B H : Hp} {as : List Addr} {l : List (Addr × HO)} (w : Own S B0 as B l H) (is rest : List Nat) (hn : l.length = (is ++ rest).length := by rfl) (h : (is ++ rest).Perm (List.range (is ++ rest).length) := by decide +kernel) : Own S B0 as B (is.map fun i => l.getD i (0, .lst [])) H := by
  have w2 := w.reorder _ hn h
  rw [List.map_append] at w2
  exact w2.pre
/-! ### for x in range(lo, hi, c) -/
@[irreducible] def mForR3 (ta : TA) (j : Nat) (tb : TS) : TS := fun D σ H => ta σ H fun ws H1 => ∃ (lo hi c : Int) (n : Nat) (Pv : Nat → L2.St → Hp → Prop), ws = [.int lo, .int hi, .int c] ∧ RgC lo hi c n ∧ Pv 0 σ H1 ∧
  (∀ i σ' H', i < n → Pv i σ' H' → tb { D with nx := Pv (i + 1), ct := Pv (i + 1), bk := D.nx } (σ'.set j (some (.int (lo + (i : Nat) * c)))) H') ∧ ∀ σ' H', Pv n σ' H' → D.nx σ' H'
theorem rd_forR3 {ta : TA} {j : Nat} {tb : TS} {D : Ends} {σ : L2.St} {H : Hp} (h : ta σ H fun ws H1 => ∃ (lo hi c : Int) (n : Nat) (Pv : Nat → L2.St → Hp → Prop), ws = [.int lo, .int hi, .int c] ∧ RgC lo hi c n ∧ Pv 0 σ H1 ∧
  (∀ i σ' H', i < n → Pv i σ' H' → tb { D with nx := Pv (i + 1), ct := Pv (i + 1), bk := D.nx } (σ'.set j (some (.int (lo + (i : Nat) * c)))) H') ∧ ∀ σ' H', Pv n σ' H' → D.nx σ' H') : mForR3 ta j tb D σ H := by
  unfold mForR3
  exact h
theorem ps_forR3 {X : Cx} {ta : TA} {pos : Pos} {j : Nat} {x : Str} {a b c : Expr} {body : List Stmt} {tb : TS} {p p2 xpos : Pos} (hp : PassesOwn (model X.prog X.w) X.A X.env X.xe) (hc : X.calm = true) (hg : Gl X "range") (hm : X.mg "range" = none) (ha : PA X [a, b, c] ta) (hgt : PG X (.Name x xpos) (gName j)) (hb : PSs X body tb)
    (hs : starEach [a, b, c] X.env = (false, eval a X.env) :: starEach [b, c] X.env := by rfl) (hpl : (backTo p2 (starEach [b, c] X.env)).any (·.1) = false := by rfl) (hs2 : ∀ y, foldedSetIterable (.Call (.Name "range" p) [a, b, c] [] p2) X.env y = pure y := by intro _; rfl) :
    PS X (.For (.Name x xpos) (.Call (.Name "range" p) [a, b, c] [] p2) body [] pos) (mForR3 ta j tb) :=
  ps_weak (ps_for hp hc (pi_range3 hg hm (pa_c ha) hs hpl) hgt hb hs2) fun D σ H q => by
    unfold mForR3 at q
    refine ⟨_, q, fun ws H1 r => ?_⟩
    obtain ⟨lo, hi, c, n, Pv, rfl, h1, h0, hs, hd⟩ := r
    refine ⟨lo, hi, c, n, rfl, h1, ?_⟩
    refine for_it (walk_rangeC (lo := lo) (c := c) (n := n)) Pv h0 (fun _ _ _ _ _ => trivial) (fun i x σ' H' H'' hi p y => ?_) hd
    obtain ⟨rfl, rfl⟩ := y
    exact hs i σ' _ hi p
end My
namespace My
open PySem L2
/-! ### sorted(d), a dict of whole numbers, any number of them -/
section
open PySem.Spec PyProof.Rows
variable {X : Cx}
theorem call_sortDB (hcl : X.calm = true) : CallR X (.builtin "sorted") (fun xs H Q => ∃ (a : Addr) (kvs : List (Key × V)) (ns : List Int), xs = [.ref a] ∧ H a = some (.dK kvs) ∧ kvs.map Prod.fst = ns.map Sum.inl ∧ ∀ (ys : List Int) (p : Addr), ys.Perm ns → ys.Pairwise (· ≤ ·) → H p = none → Q (.ref p) (upd H p (.lst (ys.map V.int)))) := by
  intro pins st σ H xs vals Q inv rv q
  obtain ⟨a, kvs, ns, rfl, hd, hkn, q⟩ := q
  obtain ⟨u, rfl, ru⟩ := vals1 rv
  cases ru
  obtain ⟨hzl, hlo, ents, hrel, hdd⟩ := dk_rd inv.hok (.inl hd)
  obtain ⟨ep, hat⟩ := hdd.dictAt
  have hek : ents.map (·.1) = ns.map Sum.inl := hrel.keys.symm.trans hkn
  have hen : ents.length = ns.length := by
    have := congrArg List.length hek
    rwa [List.length_map, List.length_map] at this
  have hkn2 : kvs.length = ns.length := by
    have := congrArg List.length hkn
    rwa [List.length_map, List.length_map] at this
  have hsz : ents.length ≤ sizeLine := by omega
  refine (Calls.call_function_entry kind_sorted plain_sorted entry_sorted (args_sorted1 _) ?_)
  unfold Builtin.«sorted»
  refine (wpAny_bind (m := checkCount "sorted" 1 1 _) (wpAny_pure ?_))
  refine (wpAny_bind (PySem.W.kdu_collect (A := X.A.in1) (PySem.W.kdl_dict (knd := mixKind X.prog X.w) (kvs := ents) (ep := ep) hlo) (inv.ok.hd hcl) hat hsz fun h2 tk acc kp hacc => ?_))
  have hal : acc.toList.length = ns.length := by rw [Array.length_toList, hacc.1, hen]
  have hints : IntsAre acc.toList ns := ints_each hal fun j v ej => by
    obtain ⟨k, x, g1, g2⟩ := hacc.2 j v (by rw [← Array.getElem?_toList]; exact ej)
    have g3 : (ents.map (·.1))[j]? = some k := by rw [List.getElem?_map, g1]; rfl
    rw [hek, List.getElem?_map] at g3
    cases g4 : ns[j]? with
    | none => rw [g4] at g3; cases g3
    | some y =>
      rw [g4] at g3
      have g5 : Sum.inl y = k := Option.some.inj g3
      subst g5
      rcases keyIs_shape (show keyIs (Sum.inl y) v = true from g2) with ⟨i, t, ek, ev⟩ | ⟨z, t, ek, ev⟩
      · cases ek
        exact ⟨y, t, rfl, ev⟩
      · cases ek
  have inv2 : Inv X pins σ H { st with heap := h2, toks := tk } := inv.kept kp
  have hal2 : acc.toList.length ≤ sizeLine := by omega
  refine (wpAny_bind (wpAny_newList ?_ hal2))
  have hnew : (h2.push (seqObj "list" acc.toList.toArray 0)).get? h2.objs.size = some (seqObj "list" acc.toList.toArray 0) := Heap.get?_push_size _ rfl
  show wpAny _ _ _ _ _ { st with heap := h2.push (seqObj "list" acc.toList.toArray 0), toks := tk }
  refine (wpAny_bind (wpAny_holding (wpAny_call_entry slot_list_sort ⟨_, hnew, rfl⟩ entry_list_sort
    (SrtO.list_sort_ord (s := { st with heap := h2.push (seqObj "list" acc.toList.toArray 0), toks := tk }) SrtO.swo_int hnew hal2 (fun g2 => SrtO.ints_sortable hints g2) fun out g1 g2 => ⟨_, rfl, ?_⟩) (args_list_sort _))))
  obtain ⟨k1, k2, k3⟩ := SrtO.ints_out hints g1 g2
  obtain ⟨e2, he2⟩ := sortedHeap_at (vs := acc.toList) (out := out.toArray) hnew
  have hyl : ((out.map SrtO.iv).map V.int).length ≤ sizeLine := by
    rw [List.length_map, k2.length_eq]
    omega
  refine wpAny_pure ⟨_, rfl, .ref h2.objs.size, upd H h2.objs.size (.lst ((out.map SrtO.iv).map V.int)), inv2.laid (t' := tk) (fun b u eb => ?_) (Nat.le_refl _)
    (show ObjOk X.prog X.w _ _ _ (.lst ((out.map SrtO.iv).map V.int)) from ⟨hyl, out, e2, vals_of_ints k1, he2⟩), rfl, q _ _ k2 k3 (inv2.hok.fresh (Nat.le_refl _))⟩
  have hbl : b < h2.objs.size := Heap.lt_size eb
  rw [sortedHeap_old (Nat.ne_of_lt hbl) (by rw [Heap.size_push]; exact Nat.lt_succ_of_lt hbl)]
  exact Heap.get?_push_of_some _ eb
end
@[irreducible] def mSortDB : List V → Hp → VK → Prop := fun xs H Q => ∃ (a : Addr) (kvs : List (Key × V)) (ns : List Int), xs = [.ref a] ∧ H a = some (.dK kvs) ∧ kvs.map Prod.fst = ns.map Sum.inl ∧ ∀ ys : List Int, ys.Perm ns → ys.Pairwise (· ≤ ·) → NewO (.lst (ys.map V.int)) H Q
theorem rd_sortDB {H : Hp} {Q : VK} {a : Addr} {kvs : List (Key × V)} {ns : List Int} (h : H a = some (.dK kvs)) (hk : kvs.map Prod.fst = ns.map Sum.inl) (q : ∀ ys : List Int, ys.Perm ns → ys.Pairwise (· ≤ ·) → NewO (.lst (ys.map V.int)) H Q) : mSortDB [.ref a] H Q := by
  unfold mSortDB
  exact ⟨a, kvs, ns, rfl, h, hk, q⟩
theorem call_sortDBM {X : Cx} (hc : X.calm = true) : CallR X (.builtin "sorted") mSortDB := fun pins s σ H xs us Q I r q => call_sortDB hc pins s σ H xs us Q I r (by
  unfold mSortDB at q
  obtain ⟨a, kvs, ns, e, h, hk, q⟩ := q
  exact ⟨a, kvs, ns, e, h, hk, fun ys p hp ho => (q ys hp ho).go p⟩)
/-! ### dict(d): a copy -/
@[irreducible] def mDictD : List V → Hp → VK → Prop := fun xs H Q => ∃ (a : Addr) (kvs : List (Key × V)), xs = [.ref a] ∧ H a = some (.dK kvs) ∧ ∀ p, H p = none → Q (.ref p) (upd H p (.dK kvs))
theorem rd_dictD {H : Hp} {Q : VK} {a : Addr} {kvs : List (Key × V)} (h : H a = some (.dK kvs)) (q : ∀ p, H p = none → Q (.ref p) (upd H p (.dK kvs))) : mDictD [.ref a] H Q := by
  unfold mDictD
  exact ⟨a, kvs, rfl, h, q⟩
theorem call_dictDM {X : Cx} : CallR X (.type "dict") mDictD := fun pins s σ H xs us Q I r q => call_dictD pins s σ H xs us Q I r (by
  unfold mDictD at q
  obtain ⟨a, kvs, e, h, q⟩ := q
  exact ⟨a, kvs, e, .inl h, q⟩)
end My
namespace My
open PySem L2
theorem hu1_of {A : Around} {k : Nat} (hr : Room k A) : A.units < cLine := Nat.lt_of_succ_lt (hu_of hr)
/-! ### {k: v for ..}, the keys tuples -/
section
open PySem.Spec PyProof.Rows
variable {X : Cx}
theorem storeT {pins : List (Addr × Obj)} {σ : L2.St} {H : Hp} {s : Shared} {E : Value → Shared → Prop} {D b : Addr} {kvs : List (List Key × V)} {k : List Key} {v : V} {r : Value} {Q : Unit → Shared → Prop}
    (hu : X.A.units < cLine) (I : Inv X pins σ H s) (hD : H D = some (.dT kvs)) (hb : H b = some (.tup (k.map kV))) (few : kvs.length < sizeLine) (rv : RelV v r)
    (fin : ∀ s', Inv X pins σ (upd H D (.dT (putK kvs k v))) s' → Q () s') : wpAny (model X.prog X.w) X.A (dictSet D (.ref b) r) Q E s := by
  obtain ⟨z, lo, xs, rel, dd⟩ := dt_of I.hok hD
  have few2 : xs.length ≤ sizeLine := (Paired.length rel) ▸ z
  have grown := length_putK kvs k v
  refine wpAny_dictSet_heap (hsz := few2) hu (key_of I.hok hb) dd fun h2 dd2 sb => fin _ ?_
  obtain ⟨o2, es2, ep2, g1, g2, g3, g4, _, g5⟩ := dd2
  have there : ∃ o, h2.get? D = some o := ⟨o2, g1⟩
  have mine : ∀ (c : Addr) (ys : List V), H c = some (.tup ys) → upd H D (.dT (putK kvs k v)) c = some (.tup ys) := fun c ys hh => by
    have hne : c ≠ D := fun e => by
      rw [e, hD] at hh
      cases hh
    rw [upd_ne hne]
    exact hh
  exact d_write I (by rw [hD]; exact True.intro) sb there ⟨by omega, lo, _, (rel.put k hb rv).keeps mine, o2, es2, ep2, g1, g2, g3, g4, g5⟩
def tDcT (wi : TI) (g : TG) (tt : TT) (tk tv : TE) (vs : List Nat) : TE := fun σ H Q => wi σ H fun J Ha => ∀ D, Ha D = none → ∃ W : Nat → Nat → Hp → Prop,
  (∃ m, W 0 m (upd Ha D (.dT []))) ∧ ∀ i m Hb, W i m Hb → (J.stop i Hb ∧ Q (.ref D) Hb) ∨ (J.go i Hb ∧ ∃ Nx : Hp → Prop, (∀ Hc, Nx Hc → ∃ m2, m2 < m ∧ W (i + 1) m2 Hc) ∧
    ∀ x Hc, J.yld i Hb x Hc → g x (wipe σ vs) Hc fun σ2 Hd => wipe σ2 vs = wipe σ vs ∧ tt σ2 Hd fun kept He => if kept = true then
      tk σ2 He fun y Hf => tv σ2 Hf fun z Hg => ∃ (kvs : List (List Key × V)) (k : List Key) (b : Addr), y = .ref b ∧ Hg b = some (.tup (k.map kV)) ∧ Hg D = some (.dT kvs) ∧ kvs.length < sizeLine ∧ Nx (upd Hg D (.dT (putK kvs k z))) else Nx He)
theorem pe_dcT {kx vx tg iter : Expr} {ifs : List Expr} {scope : Scope} {own : List (Str × Nat)} {pos : Pos} {wi : TI} {g : TG} {tt : TT} {tk tv : TE} (hu : X.A.units < cLine) (hc : X.calm = true) (hN : X.N.Nodup) (hi : PI X tg iter wi) (ok : BlkOk X.N X.env.scope scope own)
    (pgs : ∀ (sh : Shared) (Hx : Hp) (C : Addr) (cl : List (Str × Addr)) (fp : List Addr), PG (X.blk sh Hx scope (compEnvC scope cl C X.env) fp) tg g)
    (pts : ∀ (sh : Shared) (Hx : Hp) (C : Addr) (cl : List (Str × Addr)) (fp : List Addr), PTs (X.blk sh Hx scope (compEnvC scope cl C X.env) fp) ifs tt)
    (pks : ∀ (sh : Shared) (Hx : Hp) (C : Addr) (cl : List (Str × Addr)) (fp : List Addr), PE (X.blk sh Hx scope (compEnvC scope cl C X.env) fp) kx tk)
    (pvs : ∀ (sh : Shared) (Hx : Hp) (C : Addr) (cl : List (Str × Addr)) (fp : List Addr), PE (X.blk sh Hx scope (compEnvC scope cl C X.env) fp) vx tv)
    (folded : ∀ x, foldedSetIterable iter X.env x = pure x := by intro _; rfl) : PE X (.DictComp kx vx [⟨tg, iter, ifs, 0⟩] scope pos) (tDcT wi g tt tk tv (own.map (·.2))) := by
  refine ⟨fun pins s σ H Q I h => ?_⟩
  rw [arm_eval_DictComp]
  have cells : ∀ y ∈ scope.names, y.2 = .free → ∃ c, X.env.cells.lookup y.1 = some c := fun y hy e => (ok.free y hy e).elim (fun k => I.ok.has _ (.inl k)) (fun k => I.ok.has _ (.inr k))
  refine wpAny_comprehension_free rfl folded (closure_ok cells) ok.kind (fun y hy e => by rw [ok.uniq y hy, e]) (thn (hi.run pins s σ H _ I h) fun xv s1 hx => thn hx fun itv s2 started => ?_)
  obtain ⟨it, fp, tn, J, Ha, rfl, I2, T, at0, ours, turns⟩ := started
  refine wpAny_newObj_type (newEnv_comp ?_)
  -- the new dict's place
  obtain ⟨D, hD⟩ : ∃ D, D = s2.heap.objs.size := ⟨_, rfl⟩
  obtain ⟨W, ⟨m0, w0⟩, turn⟩ := turns D (I2.hok.fresh (Nat.le_of_eq hD.symm))
  have Inew : Inv X pins σ (upd Ha D (.dT [])) { s2 with heap := s2.heap.push { cls := .type "dict", data := .dict #[] } } := by
    subst hD
    exact I2.laid (t' := s2.toks) (fun b o e => Heap.get?_push_of_some _ e) (Nat.le_refl _) (dt_empty s2.heap I2.big)
  obtain ⟨s3, hs3⟩ : ∃ s3 : Shared, s3 = { s2 with heap := s2.heap.push { cls := .type "dict", data := .dict #[] } } := ⟨_, rfl⟩
  rw [← hs3] at Inew ⊢
  rw [← hD]
  have s3h : s3.heap = s2.heap.push { cls := .type "dict", data := .dict #[] } := congrArg Shared.heap hs3
  have inHeap : ∀ b ∈ fp, b < s2.heap.objs.size := fun b hb => (T.obj _ _ at0 b hb).elim fun o e => Heap.lt_size e.1
  have ours3 : ∀ b ∈ fp, FpOk X pins (upd Ha D (.dT [])) b ∧ b < s3.heap.objs.size := fun b hb => by
    have lt := inHeap b hb
    have ne : b ≠ D := fun e => by
      rw [e, hD] at lt
      exact Nat.lt_irrefl _ lt
    refine ⟨⟨(upd_ne ne).trans (ours b hb).1, (ours b hb).2⟩, ?_⟩
    rw [s3h, Heap.size_push]
    exact Nat.lt_succ_of_lt lt
  have at3 : tn 0 s3.heap := T.keep _ _ _ at0 fun b _ o e => by
    rw [s3h]
    exact Heap.get?_push_of_some _ e
  obtain ⟨H3, hH3⟩ : ∃ H3, H3 = upd Ha D (.dT []) := ⟨_, rfl⟩
  rw [← hH3] at Inew ours3 w0
  have Iblk := block_start Inew ok hN ours3
  obtain ⟨C, hC⟩ : ∃ C, C = s3.heap.objs.size := ⟨_, rfl⟩
  have pg := pgs s3 H3 C (cellsFrom (C + 1) scope.names (cloFrom X.env.cells scope.names [])) fp
  have pt := pts s3 H3 C (cellsFrom (C + 1) scope.names (cloFrom X.env.cells scope.names [])) fp
  have pk := pks s3 H3 C (cellsFrom (C + 1) scope.names (cloFrom X.env.cells scope.names [])) fp
  have pv := pvs s3 H3 C (cellsFrom (C + 1) scope.names (cloFrom X.env.cells scope.names [])) fp
  obtain ⟨ce, hce⟩ : ∃ ce, ce = compEnvC scope (cellsFrom (C + 1) scope.names (cloFrom X.env.cells scope.names [])) C X.env := ⟨_, rfl⟩
  obtain ⟨s4, hs4⟩ : ∃ s4 : Shared, s4 = { s3 with heap := pushCells (s3.heap.push { cls := .type "dict", data := .dict #[] }) scope.names } := ⟨_, rfl⟩
  suffices goal : codeAny (model X.prog X.w) X.A (.compLoop (.DictComp kx vx [⟨tg, iter, ifs, 0⟩] scope pos) 0 (.ref it) (.ref D) ce) (compPost (model X.prog X.w) X.A X.xe none (EP X pins σ Q) (.ref D) C) s4 by
    have at4 : tn 0 s4.heap := T.keep _ _ _ at3 fun b _ o e => by
      rw [hs4]
      exact pushCells_keeps _ _ _ _ (Heap.get?_push_of_some _ e)
    have start := codeAny_compStart_dict goal (T.self X.A 0 _ _ _ at4 goal)
    rw [hce, hC, hs4] at start
    exact start
  have at4 : tn 0 s4.heap := T.keep _ _ _ at3 fun b _ o e => by
    rw [hs4]
    exact pushCells_keeps _ _ _ _ (Heap.get?_push_of_some _ e)
  rw [← hC] at Iblk
  rw [← hce] at Iblk pg pt pk pv
  rw [← hs4] at Iblk
  have atC : ce.locals = C := by rw [hce]; rfl
  have free3 : ∀ b ∈ fp, H3 b = none := fun b hb => (ours3 b hb).1.1
  have stays : ∀ {σx : L2.St} {Hx : Hp} {sx : Shared}, Inv (X.blk s3 H3 scope ce fp) [] σx Hx sx → (∀ b ∈ fp, Hx b = none) → ∀ b ∈ fp, FpOk (X.blk s3 H3 scope ce fp) [] Hx b :=
    fun {σx Hx sx} Ix hn b hb => ⟨hn b hb, (Ix.ok.exf b hb).1, Ix.ok.exfs b hb, .inl hb, fun x c e => (Ix.ok.exf b hb).2 x c e, fun p hp => by
      have : p ∈ ([] : List (Addr × Obj)) ++ [] := hp
      cases this⟩
  refine compLoop_anyD (fun n sx => ∃ i Hx, Inv (X.blk s3 H3 scope ce fp) [] (wipe σ (own.map (·.2))) Hx sx ∧ tn i sx.heap ∧ (∀ b ∈ fp, Hx b = none) ∧ W i n Hx) ?_ m0 ⟨0, H3, Iblk, at4, free3, w0⟩
  intro n s5 hyp
  obtain ⟨i, H5, I5, at5, free5, w5⟩ := hyp
  rcases turn i n H5 w5 with ⟨ends, won⟩ | ⟨goes, Nx, less, step⟩
  · refine thnF (T.done (X.blk s3 H3 scope ce fp) rfl rfl rfl hc i [] s5 _ H5 (fun _ _ => False) I5 (stays I5 free5) at5 ends) fun r s6 over => ?_
    obtain ⟨rfl, I6⟩ := over
    have Iout : Inv X pins σ H5 s6 := Inew.call' (ch := fp) I6.os I6.base I6.hok I6.bare fun b hb => by
      have z := (ours3 b hb).1.2
      exact ⟨z.2.2.1, z.1, z.2.2.2.1, z.2.2.2.2⟩
    have freeC : H5 C = none := atC ▸ I6.free
    obtain ⟨m, ns, _⟩ := I6.loc
    have ns : s6.heap.Ns C m := atC ▸ ns
    refine ⟨m, ns, fun h2 sb => ?_⟩
    obtain ⟨f0, f1, f2, f3, f4, f5⟩ := Inew.fpOk (Nat.le_of_eq hC.symm) freeC
    exact ⟨.ref D, H5, Iout.turned (t' := s6.toks) (fun b o hb e => (sb.2 b hb).trans e) f0 f1 f3 f4 f5, rfl, won⟩
  · refine thnF (T.item (X.blk s3 H3 scope ce fp) rfl rfl rfl hc i [] s5 _ H5 (fun _ _ => False) I5 (stays I5 free5) at5 goes) fun r s6 got => ?_
    obtain ⟨u, rfl, h6⟩ := got
    refine thnF h6 fun _ s7 came => ?_
    obtain ⟨x, H7, I7, r7, y7, at7, free7⟩ := came
    refine thnF (pg.run _ s7 _ H7 x u _ (I7.pinned (stays I7 free7) (T.obj _ _ at7)) r7 (step x H7 y7)) fun _ s8 set8 => ?_
    obtain ⟨σ8, H8, I8, same8, q8⟩ := set8
    refine thnF (pt.run _ s8 σ8 H8 _ I8 q8) fun kept s9 told => ?_
    obtain ⟨H9, I9, q9⟩ := told
    have close : ∀ {sx : Shared} {Hx : Hp}, Inv (X.blk s3 H3 scope ce fp) ([] ++ pinsAt fp s7.heap) σ8 Hx sx → Nx Hx → ∃ m, m < n ∧ ∃ i Hy, Inv (X.blk s3 H3 scope ce fp) [] (wipe σ (own.map (·.2))) Hy sx ∧ tn i sx.heap ∧ (∀ b ∈ fp, Hy b = none) ∧ W i m Hy := fun {sx Hx} Ix nx => by
      obtain ⟨m2, lt2, w2⟩ := less Hx nx
      have pin : ∀ b ∈ fp, ∀ o, s7.heap.get? b = some o → sx.heap.get? b = some o ∧ Hx b = none := fun b hb o e => by
        have z := Ix.pin (b, o) (List.mem_append_right _ (List.mem_append_right _ (mem_pinsAt hb e)))
        exact ⟨z.1, z.2.1⟩
      have len8 : (wipe σ (own.map (·.2))).length = σ8.length := by
        rw [← same8, wipe_length]
      refine ⟨m2, lt2, i + 1, Hx, (Ix.unpinned (pins := [])).weak len8 (fun j v e => ?_), T.keep _ _ _ at7 (fun b hb o e => (pin b hb o e).1), (fun b hb => ?_), w2⟩
      · rw [← same8] at e
        exact (wipe_some e).1
      · obtain ⟨o, e, _⟩ := T.obj _ _ at7 b hb
        exact (pin b hb o e).2
    cases kept with
    | false => exact close I9 q9
    | true =>
      refine thnF (pk.run _ s9 σ8 H9 _ I9 q9) fun z1 s10 key => ?_
      obtain ⟨yk, H10, I10, r10, q10⟩ := key
      refine thnF (pv.run _ s10 σ8 H10 _ I10 q10) fun z2 s11 val => ?_
      obtain ⟨yv, H11, I11, r11, kvs, k, b, rfl, hb11, hD11, few11, nx⟩ := val
      cases (show z1 = Value.ref b from r10)
      exact storeT (X := X.blk s3 H3 scope ce fp) hu I11 hD11 hb11 few11 r11 fun s12 I12 => close I12 nx
end
/-! ### a dict whose keys are pairs of whole numbers, its values whole numbers -/
abbrev PK := (Int × Int) × Int
def kT (p : Int × Int) : List Key := [.inl p.1, .inl p.2]
def kvT (e : PK) : List Key × V := (kT e.1, .int e.2)
def tget (E : List PK) (p : Int × Int) : Option Int := (E.find? fun e => decide (e.1 = p)).map (·.2)
def tput (E : List PK) (p : Int × Int) (v : Int) : List PK := if p ∈ E.map Prod.fst then E.map (fun e => if e.1 = p then (e.1, v) else e) else E ++ [(p, v)]
theorem kT_inj {p q : Int × Int} : kT p = kT q ↔ p = q := by
  constructor
  · intro h
    obtain ⟨a, b⟩ := p
    obtain ⟨c, d⟩ := q
    injection h with h1 h2
    injection h2 with h2 _
    injection h1 with h1
    injection h2 with h2
    have h1 : a = c := h1
    have h2 : b = d := h2
    rw [h1, h2]
  · rintro rfl
    rfl
theorem kT_kV (p : Int × Int) : (kT p).map kV = [.int p.1, .int p.2] := rfl
theorem valV_T (E : List PK) (p : Int × Int) : valV (E.map kvT) (kT p) = (tget E p).map V.int := by
  unfold valV tget
  induction E with
  | nil => rfl
  | cons e r ih =>
    rw [List.map_cons, List.find?_cons, List.find?_cons]
    by_cases h : e.1 = p
    · rw [decide_eq_true h, decide_eq_true (show (kvT e).1 = kT p from kT_inj.mpr h)]
      rfl
    · rw [decide_eq_false h, decide_eq_false (show ¬ (kvT e).1 = kT p from fun z => h (kT_inj.mp z))]
      exact ih
theorem putK_T (E : List PK) (p : Int × Int) (v : Int) : putK (E.map kvT) (kT p) (.int v) = (tput E p v).map kvT := by
  have hany : ((E.map kvT).any fun kv => decide (kv.1 = kT p)) = decide (p ∈ E.map Prod.fst) := by
    induction E with
    | nil => rfl
    | cons e r ih =>
      rw [List.map_cons, List.any_cons, ih]
      have e1 : decide ((kvT e).1 = kT p) = decide (e.1 = p) := decide_eq_decide.mpr kT_inj
      rw [e1, ← Bool.decide_or]
      refine decide_eq_decide.mpr ?_
      rw [List.map_cons, List.mem_cons]
      exact ⟨fun z => z.imp_left Eq.symm, fun z => z.imp_left Eq.symm⟩
  unfold putK tput
  rw [hany]
  by_cases h : p ∈ E.map Prod.fst
  · rw [if_pos (decide_eq_true h), if_pos h, List.map_map, List.map_map]
    refine List.map_congr_left fun e _ => ?_
    show (if (kvT e).1 = kT p then ((kvT e).1, V.int v) else kvT e) = kvT (if e.1 = p then (e.1, v) else e)
    by_cases h2 : e.1 = p
    · rw [if_pos h2, if_pos (show (kvT e).1 = kT p from kT_inj.mpr h2)]
      rfl
    · rw [if_neg h2, if_neg (show ¬ (kvT e).1 = kT p from fun z => h2 (kT_inj.mp z))]
  · rw [if_neg (by rw [decide_eq_false h]; decide), if_neg h, List.map_append]
    rfl
@[irreducible] def mDGetT (x y : V) (H : Hp) (Q : VK) : Prop := ∃ a kvs k b v, x = .ref a ∧ y = .ref b ∧ Rd H a (.dT kvs) ∧ H b = some (.tup (k.map kV)) ∧ valV kvs k = some v ∧ Q v H
@[irreducible] def mDPutT (x y v : V) (H : Hp) (k : Hp → Prop) : Prop := ∃ a kvs key b, x = .ref a ∧ y = .ref b ∧ H a = some (.dT kvs) ∧ H b = some (.tup (key.map kV)) ∧ kvs.length < 1000000 ∧ k (upd H a (.dT (putK kvs key v)))
@[irreducible] def mDGet2T (x y z : V) (H : Hp) (Q : VK) : Prop := ∃ a kvs k b, x = .ref a ∧ y = .ref b ∧ Rd H a (.dT kvs) ∧ H b = some (.tup (k.map kV)) ∧ Q ((valV kvs k).getD z) H
def mDGetTE (td ty : TE) : TE := fun σ H Q => td σ H fun x H1 => ty σ H1 fun y H2 => mDGetT x y H2 Q
def mSDPutT (td ty tv : TE) : TS := fun D σ H => tv σ H fun v H1 => td σ H1 fun x H2 => ty σ H2 fun y H3 => mDPutT x y v H3 fun H4 => D.nx σ H4
@[irreducible] def mIsDT (x : V) (H : Hp) (A : Prop) : Prop := (∃ a kvs, x = .ref a ∧ Rd H a (.dT kvs)) ∧ A
def mDGet2TE (td ty tz : TE) : TE := fun σ H Q => td σ H fun x H1 => mIsDT x H1 (ty σ H1 fun y H2 => tz σ H2 fun z H3 => mDGet2T x y z H3 Q)
section
variable {a b : Addr} {E : List PK} {p : Int × Int} {v : Int} {H : Hp} {Q : VK}
theorem rd_dgetT (h : Rd H a (.dT (E.map kvT))) (hb : H b = some (.tup [.int p.1, .int p.2])) (e : tget E p = some v) (q : Q (.int v) H) : mDGetT (.ref a) (.ref b) H Q := by
  unfold mDGetT
  exact ⟨a, _, kT p, b, .int v, rfl, rfl, h, hb, by rw [valV_T, e]; rfl, q⟩
theorem rd_dget2T (h : Rd H a (.dT (E.map kvT))) (hb : H b = some (.tup [.int p.1, .int p.2])) (q : Q (.int ((tget E p).getD v)) H) : mDGet2T (.ref a) (.ref b) (.int v) H Q := by
  unfold mDGet2T
  refine ⟨a, _, kT p, b, rfl, rfl, h, hb, ?_⟩
  rw [valV_T]
  cases e : tget E p with
  | none => rw [e] at q; exact q
  | some u => rw [e] at q; exact q
theorem rd_dputT {k : Hp → Prop} (h : H a = some (.dT (E.map kvT))) (hb : H b = some (.tup [.int p.1, .int p.2])) (hz : E.length < 1000000) (q : k (upd H a (.dT ((tput E p v).map kvT)))) : mDPutT (.ref a) (.ref b) (.int v) H k := by
  unfold mDPutT
  refine ⟨a, _, kT p, b, rfl, rfl, h, hb, by rw [List.length_map]; exact hz, ?_⟩
  rw [putK_T]
  exact q
theorem rd_isDT {kvs : List (List Key × V)} {A : Prop} (h : Rd H a (.dT kvs)) (q : A) : mIsDT (.ref a) H A := by
  unfold mIsDT
  exact ⟨⟨a, kvs, rfl, h⟩, q⟩
end
section
variable {X : Cx} {o i e f value : Expr} {td ty tz tv : TE} {pos pos' apos cpos : Pos}
theorem pe_dgetTM (hu : X.A.units + 1 < cLine) (ho : PE X o td) (hi : PE X i ty) (hs : NoSl i := by exact fun _ _ => rfl) : PE X (.Subscript o i pos) (mDGetTE td ty) :=
  pe_weak (pe_dget hu (pe_c ho) (pe_c hi) hs) fun σ H Q q => ⟨_, q, fun x H1 r => ⟨_, r, fun y H2 r => by
    unfold mDGetT at r
    obtain ⟨a, kvs, k, b, v, rfl, rfl, h, hb, hv, r⟩ := r
    exact ⟨a, v, rfl, .inr ⟨kvs, k, b, h, rfl, hb, hv.symm⟩, r⟩⟩⟩
theorem ps_dputTM (hu : X.A.units + 1 < cLine) (ho : PE X o td) (hi : PE X i ty) (hv : PE X value tv) (hs : swapsWith value (some (.Subscript o i pos')) pos.line X.env = pure false := by rfl) : PS X (.Assign [.Subscript o i pos'] value pos) (mSDPutT td ty tv) :=
  ps_weak (ps_dput hu (pe_c ho) (pe_c hi) (pe_c hv) hs) fun D σ H q => ⟨_, q, fun v H1 r => ⟨_, r, fun x H2 r => ⟨_, r, fun y H3 r => by
    unfold mDPutT at r
    obtain ⟨a, kvs, k, b, rfl, rfl, h, hb, hl, r⟩ := r
    exact ⟨a, _, rfl, .inr ⟨kvs, k, b, h, rfl, hb, szl hl, rfl⟩, r⟩⟩⟩⟩
theorem pe_dget2TM (hu : X.A.units + 1 < cLine) (ho : PE X o td) (he : PE X e ty) (hf : PE X f tz) (hbase : attributeBase o "get" X.env (eval o X.env) = eval o X.env := by rfl)
    (hfew : ((backTo cpos (starEach [e, f] X.env)).all (fun x => !x.1) && (backToKw cpos (keywordEach [] X.env)).all (fun x => x.1.isSome)
      && decide ([e, f].length + ([] : List Keyword).length + (if ([] : List Keyword).isEmpty then 0 else 1) < 30)) = true := by rfl)
    (hline : (apos.endLine == cpos.line) = true := by rfl) (htr : backTo cpos (starEach [e, f] X.env) = [(false, eval e X.env), (false, eval f X.env)] := by rfl) : PE X (.Call (.Attribute o "get" apos) [e, f] [] cpos) (mDGet2TE td ty tz) :=
  pe_weak (pe_dget2 hu (pe_c ho) (pe_c he) (pe_c hf) ⟨hbase, hfew, hline, htr⟩) fun σ H Q q => ⟨_, q, fun x H1 r => by
    unfold mIsDT at r
    obtain ⟨⟨a, kvs, rfl, h⟩, r⟩ := r
    exact ⟨a, rfl, .inr ⟨kvs, h⟩, _, r, fun y H2 r => ⟨_, r, fun z H3 r => by
      unfold mDGet2T at r
      obtain ⟨a2, kvs2, k, b, e1, rfl, h2, hb, r⟩ := r
      cases e1
      exact ⟨_, .inr ⟨kvs2, k, b, h2, rfl, hb, rfl⟩, r⟩⟩⟩⟩
end
/-! ### its keys, listed and sorted -/
structure PsAt (H : Hp) (bs : List Addr) (ps : List (Int × Int)) : Prop where
  ln : bs.length = ps.length
  at' : ∀ (i : Nat) (b : Addr) (q : Int × Int), bs[i]? = some b → ps[i]? = some q → H b = some (.tup [.int q.1, .int q.2])
theorem PsAt.mono {H H' : Hp} {bs : List Addr} {ps : List (Int × Int)} (h : PsAt H bs ps) (s : Same H H') : PsAt H' bs ps := ⟨h.ln, fun i b q e1 e2 => s _ _ (h.at' i b q e1 e2)⟩
def prAt (H : Hp) (b : Addr) : Int × Int := match H b with
  | some (.tup [.int i, .int j]) => (i, j)
  | _ => (0, 0)
theorem prAt_of {H : Hp} {b : Addr} {q : Int × Int} (h : H b = some (.tup [.int q.1, .int q.2])) : prAt H b = q := by
  unfold prAt
  rw [h]
theorem PsAt.eq {H : Hp} {bs : List Addr} {ps : List (Int × Int)} (h : PsAt H bs ps) : ps = bs.map (prAt H) := by
  refine List.ext_getElem? fun i => ?_
  rw [List.getElem?_map]
  cases e : bs[i]? with
  | none => exact List.getElem?_eq_none (by rw [← h.ln]; exact List.getElem?_eq_none_iff.mp e)
  | some b =>
    have hi := (List.getElem?_eq_some_iff.mp e).1
    rw [h.ln] at hi
    have e2 := List.getElem?_eq_getElem hi
    rw [e2]
    exact congrArg some (prAt_of (h.at' i b _ e e2)).symm
/-- in the order of pairs -/
def leP (p q : Int × Int) : Prop := p.1 < q.1 ∨ (p.1 = q.1 ∧ p.2 ≤ q.2)
@[irreducible] def mListDT : List V → Hp → VK → Prop := fun xs H Q => ∃ (a : Addr) (E : List PK), xs = [.ref a] ∧ Rd H a (.dT (E.map kvT)) ∧ ∀ bs : List Addr, PsAt H bs (E.map Prod.fst) → NewO (.lst (bs.map V.ref)) H Q
@[irreducible] def mSortDT : List V → Hp → VK → Prop := fun xs H Q => ∃ (a : Addr) (E : List PK), xs = [.ref a] ∧ Rd H a (.dT (E.map kvT)) ∧ ∀ (bs : List Addr) (ps : List (Int × Int)), PsAt H bs ps → ps.Perm (E.map Prod.fst) → ps.Pairwise leP → NewO (.lst (bs.map V.ref)) H Q
@[irreducible] def mSortLP (K : PySem.W.Frag) : List V → Hp → VK → Prop := fun xs H Q => ∃ (a : Addr) (bs0 : List Addr) (ps0 : List (Int × Int)), xs = [.ref a] ∧ SqL K H a (bs0.map V.ref) ∧ PsAt H bs0 ps0 ∧ ∀ (bs : List Addr) (ps : List (Int × Int)), PsAt H bs ps → ps.Perm ps0 → ps.Pairwise leP → NewO (.lst (bs.map V.ref)) H Q
section
variable {K : PySem.W.Frag} {H : Hp} {Q : VK} {a : Addr} {E : List PK}
theorem rd_listDT (h : Rd H a (.dT (E.map kvT))) (q : ∀ bs : List Addr, PsAt H bs (E.map Prod.fst) → NewO (.lst (bs.map V.ref)) H Q) : mListDT [.ref a] H Q := by
  unfold mListDT
  exact ⟨a, E, rfl, h, q⟩
theorem rd_sortDT (h : Rd H a (.dT (E.map kvT))) (q : ∀ (bs : List Addr) (ps : List (Int × Int)), PsAt H bs ps → ps.Perm (E.map Prod.fst) → ps.Pairwise leP → NewO (.lst (bs.map V.ref)) H Q) : mSortDT [.ref a] H Q := by
  unfold mSortDT
  exact ⟨a, E, rfl, h, q⟩
theorem rd_sortLP {bs0 : List Addr} {ps0 : List (Int × Int)} (h : SqL K H a (bs0.map V.ref)) (hp : PsAt H bs0 ps0) (q : ∀ (bs : List Addr) (ps : List (Int × Int)), PsAt H bs ps → ps.Perm ps0 → ps.Pairwise leP → NewO (.lst (bs.map V.ref)) H Q) : mSortLP K [.ref a] H Q := by
  unfold mSortLP
  exact ⟨a, bs0, ps0, rfl, h, hp, q⟩
end
theorem keysP {H : Hp} {bs : List Addr} : ∀ {E : List PK}, IsKeys H (E.map kvT) bs → PsAt H bs (E.map Prod.fst) := by
  unfold IsKeys
  intro E
  induction E generalizing bs with
  | nil =>
    intro h
    cases h
    exact ⟨rfl, fun i b q e => by cases e⟩
  | cons e r ih =>
    intro h
    cases h with
    | cons h1 h2 =>
      have k := ih h2
      refine ⟨congrArg Nat.succ k.ln, fun i b q e1 e2 => ?_⟩
      cases i with
      | zero =>
        cases e1
        cases e2
        exact h1
      | succ i => exact k.at' i b q e1 e2
theorem call_listDTM {X : Cx} (hc : X.calm = true) : CallR X (.type "list") mListDT := fun pins s σ H xs us Q I r q => call_list_dT hc pins s σ H xs us Q I r (by
  unfold mListDT at q
  obtain ⟨a, E, e, h, q⟩ := q
  exact ⟨a, _, e, h, fun p bs hp hk => (q bs (keysP hk)).go p hp⟩)
theorem ref_list : ∀ {xs : List V}, (∀ x ∈ xs, ∃ b : Addr, x = .ref b) → ∃ bs : List Addr, xs = bs.map V.ref
  | [], _ => ⟨[], rfl⟩
  | x :: r, h => by
    obtain ⟨b, rfl⟩ := h x (.head _)
    obtain ⟨bs, rfl⟩ := ref_list fun y hy => h y (.tail _ hy)
    exact ⟨b :: bs, rfl⟩
def prV (H : Hp) (v : V) : Int × Int := match v with
  | .ref b => prAt H b
  | _ => (0, 0)
theorem psAt_sub {H : Hp} {bs0 bs : List Addr} {ps0 : List (Int × Int)} (h : PsAt H bs0 ps0) (hs : ∀ b ∈ bs, b ∈ bs0) : PsAt H bs (bs.map (prAt H)) := by
  refine ⟨by rw [List.length_map], fun i b q e1 e2 => ?_⟩
  rw [List.getElem?_map, e1] at e2
  cases e2
  obtain ⟨j, hj⟩ := List.getElem?_of_mem (hs b (List.mem_of_getElem? e1))
  have hjl := (List.getElem?_eq_some_iff.mp hj).1
  rw [h.ln] at hjl
  have z := h.at' j b _ hj (List.getElem?_eq_getElem hjl)
  rw [prAt_of z]
  exact z
theorem leP_no {p q : Int × Int} (h : SrtO.lexB q p = false) : leP p q := by
  have := SrtO.lexB_no.mp h
  unfold leP
  omega
def unref (v : V) : Addr := match v with
  | .ref b => b
  | _ => 0
theorem refs_perm {bs cs : List Addr} (h : (bs.map V.ref).Perm (cs.map V.ref)) : bs.Perm cs := by
  have k := h.map unref
  rw [List.map_map, List.map_map] at k
  have e : ∀ l : List Addr, l.map (unref ∘ V.ref) = l := fun l => by
    induction l with
    | nil => rfl
    | cons x r ih => rw [List.map_cons, ih]; rfl
  rw [e, e] at k
  exact k
theorem call_sortLPM {X : Cx} : CallR X (.builtin "sorted") (mSortLP X.K) := fun pins s σ H xs us Q I r q => cr_sortedPO pins s σ H xs us Q I r (by
  unfold mSortLP at q
  obtain ⟨a, bs0, ps0, e, hs, hp, q⟩ := q
  refine ⟨a, bs0.map V.ref, prV H, e, hs, fun x hx => ?_, fun ys p srt stb hn => ?_⟩
  · obtain ⟨b, hb, rfl⟩ := List.mem_map.mp hx
    obtain ⟨j, hj⟩ := List.getElem?_of_mem hb
    have hjl := (List.getElem?_eq_some_iff.mp hj).1
    rw [hp.ln] at hjl
    have z := hp.at' j b _ hj (List.getElem?_eq_getElem hjl)
    refine ⟨b, rfl, ?_⟩
    show H b = some (.tup [.int (prAt H b).1, .int (prAt H b).2])
    rw [prAt_of z]
    exact z
  · obtain ⟨bs, rfl⟩ := ref_list (xs := ys) fun x hx => by
      obtain ⟨b, _, rfl⟩ := List.mem_map.mp (stb.perm.mem_iff.mp hx)
      exact ⟨b, rfl⟩
    have pm : bs.Perm bs0 := refs_perm stb.perm
    refine (q bs (bs.map (prAt H)) (psAt_sub hp fun b hb => pm.mem_iff.mp hb) ?_ ?_).go p hn
    · rw [hp.eq]
      exact pm.map _
    · have srt2 := List.pairwise_map.mp srt
      exact List.pairwise_map.mpr (srt2.imp fun {x y} h => leP_no h))
theorem ref_vals : ∀ {xs : List Value}, (∀ x ∈ xs, ∃ b : Addr, x = .ref b) → ∃ bs : List Addr, xs = bs.map Value.ref
  | [], _ => ⟨[], rfl⟩
  | x :: r, h => by
    obtain ⟨b, rfl⟩ := h x (.head _)
    obtain ⟨bs, rfl⟩ := ref_vals fun y hy => h y (.tail _ hy)
    exact ⟨b :: bs, rfl⟩
def vunref (v : Value) : Addr := match v with
  | .ref b => b
  | _ => 0
theorem vrefs_perm {bs cs : List Addr} (h : (bs.map Value.ref).Perm (cs.map Value.ref)) : bs.Perm cs := by
  have k := h.map vunref
  rw [List.map_map, List.map_map] at k
  have e : ∀ l : List Addr, l.map (vunref ∘ Value.ref) = l := fun l => by
    induction l with
    | nil => rfl
    | cons x r ih => rw [List.map_cons, ih]; rfl
  rw [e, e] at k
  exact k
section
open PySem.Spec PyProof.Rows
variable {X : Cx}
theorem call_sortDTM (hcl : X.calm = true) : CallR X (.builtin "sorted") mSortDT := by
  intro pins st σ H xs vals Q inv rv q
  unfold mSortDT at q
  obtain ⟨a, E, rfl, hd, q⟩ := q
  obtain ⟨u, rfl, ru⟩ := vals1 rv
  cases ru
  obtain ⟨z, lo, ks, pr, o, es, ep, ho, hx, hdt, he, hn⟩ := (show ObjOk X.prog X.w H st.heap a (.dT (E.map kvT)) from hd.ok inv.hok)
  have l1 : es.size = ks.length := size_of_entries he
  have l2 : (E.map kvT).length = ks.length := Paired.length pr
  have few : es.size ≤ sizeLine := by omega
  refine (Calls.call_function_entry kind_sorted plain_sorted entry_sorted (args_sorted1 _) ?_)
  unfold Builtin.«sorted»
  refine (wpAny_bind (m := checkCount "sorted" 1 1 _) (wpAny_pure ?_))
  refine (wpAny_bind (PySem.W.kdu_collect (A := X.A.in1) (kdl_raw lo hx hdt) (inv.ok.hd hcl) ho few fun h2 tk acc kp hacc => ?_))
  have hal : acc.toList.length = ks.length := by rw [Array.length_toList, hacc.1, l1]
  have eacc : acc.toList = (ks.map fun y => y.2.1).map Value.ref := by
    refine List.ext_getElem? fun j => ?_
    rw [List.getElem?_map, List.getElem?_map]
    cases hj : acc.toList[j]? with
    | none =>
      have hle := List.getElem?_eq_none_iff.mp hj
      rw [List.getElem?_eq_none (show ks.length ≤ j by omega)]
      all_goals rfl
    | some v =>
      obtain ⟨en, hen, hv⟩ := hacc.2 j v (by rw [← Array.getElem?_toList]; exact hj)
      have qe := entry_at he j
      rw [hen] at qe
      cases hb : ks[j]? with
      | none =>
        rw [hb] at qe
        cases (show some en = none from qe)
      | some b =>
        rw [hb] at qe
        rw [hv, Option.some.inj (show some en = some _ from qe)]
        all_goals rfl
  have keysAt : PsAt H (ks.map fun y => y.2.1) (E.map Prod.fst) := keysP (isKeys_of pr)
  generalize (ks.map fun y => y.2.1) = bs0 at eacc keysAt
  have inv2 : Inv X pins σ H { st with heap := h2, toks := tk } := inv.kept kp
  have hal2 : acc.toList.length ≤ sizeLine := by omega
  refine (wpAny_bind (wpAny_newList ?_ hal2))
  have hnew : (h2.push (seqObj "list" acc.toList.toArray 0)).get? h2.objs.size = some (seqObj "list" acc.toList.toArray 0) := Heap.get?_push_size _ rfl
  show wpAny _ _ _ _ _ { st with heap := h2.push (seqObj "list" acc.toList.toArray 0), toks := tk }
  have pairs : ∀ v ∈ acc.toList, Srt.IsPair (h2.push (seqObj "list" acc.toList.toArray 0)) v (prV H (backV v)).1 (prV H (backV v)).2 := fun v hv => by
    rw [eacc] at hv
    obtain ⟨b, hb, rfl⟩ := List.mem_map.mp hv
    obtain ⟨j, hj⟩ := List.getElem?_of_mem hb
    have hjl := (List.getElem?_eq_some_iff.mp hj).1
    rw [keysAt.ln] at hjl
    have zz := keysAt.at' j b _ hj (List.getElem?_eq_getElem hjl)
    have eb : prV H (backV (Value.ref b)) = (E.map Prod.fst)[j] := prAt_of zz
    rw [eb]
    obtain ⟨_, its2, r2, o2, ho2, hc2, n2, hd2⟩ := inv2.hok _ _ zz
    obtain ⟨u1, u2, rfl, ri, rj⟩ := vals2 r2
    obtain ⟨t1, rfl⟩ := ri
    obtain ⟨t2, rfl⟩ := rj
    exact ⟨b, o2, t1, t2, n2, rfl, Heap.get?_push_of_some _ ho2, hc2, hd2⟩
  refine (wpAny_bind (wpAny_holding (wpAny_call_entry slot_list_sort ⟨_, hnew, rfl⟩ entry_list_sort
    (SrtO.list_sort_ord (s := { st with heap := h2.push (seqObj "list" acc.toList.toArray 0), toks := tk }) (SrtO.swo_lex fun u => prV H (backV u)) hnew hal2 (fun g2 => SrtO.pairs_sortableO (by omega) pairs fun o3 e3 c3 => ?_) fun out g1 g2 => ⟨_, rfl, ?_⟩) (args_list_sort _))))
  · cases (show some o3 = some (seqObj "list" acc.toList.toArray 0) from e3.symm.trans hnew)
    exact absurd (Value.type.inj c3) (by decide)
  obtain ⟨e2, he2⟩ := sortedHeap_at (vs := acc.toList) (out := out.toArray) hnew
  have perm := g2.perm
  rw [eacc] at perm
  obtain ⟨bs, rfl⟩ : ∃ bs : List Addr, out = bs.map Value.ref := ref_vals fun x hx => by
    obtain ⟨b, _, rfl⟩ := List.mem_map.mp (perm.mem_iff.mp hx)
    exact ⟨b, rfl⟩
  have pm : bs.Perm bs0 := vrefs_perm perm
  have hyl : (bs.map V.ref).length ≤ sizeLine := by
    rw [List.length_map, pm.length_eq, keysAt.ln, List.length_map, ← List.length_map (f := kvT)]
    omega
  have good : NewO (.lst (bs.map V.ref)) H Q := by
    refine q bs (bs.map (prAt H)) (psAt_sub keysAt fun b hb => pm.mem_iff.mp hb) ?_ ?_
    · rw [keysAt.eq]
      exact pm.map _
    · exact List.pairwise_map.mpr ((List.pairwise_map.mp g1).imp fun {x y} h => leP_no h)
  refine wpAny_pure ⟨_, rfl, .ref h2.objs.size, upd H h2.objs.size (.lst (bs.map V.ref)), inv2.laid (t' := tk) (fun b u eb => ?_) (Nat.le_refl _)
    (show ObjOk X.prog X.w _ _ _ (.lst (bs.map V.ref)) from ⟨hyl, bs.map Value.ref, e2, vals_refs bs, he2⟩), rfl, good.go _ (inv2.hok.fresh (Nat.le_refl _))⟩
  have hbl : b < h2.objs.size := Heap.lt_size eb
  rw [sortedHeap_old (Nat.ne_of_lt hbl) (by rw [Heap.size_push]; exact Nat.lt_succ_of_lt hbl)]
  exact Heap.get?_push_of_some _ eb
end
/-! ### loops over a tuple, and over a dict whose keys are pairs -/
@[irreducible] def mForT (K : PySem.W.Frag) (tl : TE) (j : Nat) (tb : TS) : TS := fun D σ H => tl σ H fun x H1 => ∃ (a : Addr) (xs : List V) (Pv : Nat → L2.St → Hp → Prop), x = .ref a ∧ SqT K H1 a xs ∧ Pv 0 σ H1 ∧ (∀ i σ' H', i ≤ xs.length → Pv i σ' H' → SqT K H' a xs) ∧
  (∀ i y σ' H', xs[i]? = some y → Pv i σ' H' → tb { D with nx := Pv (i + 1), ct := Pv (i + 1), bk := D.nx } (σ'.set j (some y)) H') ∧ ∀ σ' H', Pv xs.length σ' H' → D.nx σ' H'
theorem rd_forT {K : PySem.W.Frag} {tl : TE} {j : Nat} {tb : TS} {D : Ends} {σ : L2.St} {H : Hp} (h : tl σ H fun x H1 => ∃ (a : Addr) (xs : List V) (Pv : Nat → L2.St → Hp → Prop), x = .ref a ∧ SqT K H1 a xs ∧ Pv 0 σ H1 ∧ (∀ i σ' H', i ≤ xs.length → Pv i σ' H' → SqT K H' a xs) ∧
  (∀ i y σ' H', xs[i]? = some y → Pv i σ' H' → tb { D with nx := Pv (i + 1), ct := Pv (i + 1), bk := D.nx } (σ'.set j (some y)) H') ∧ ∀ σ' H', Pv xs.length σ' H' → D.nx σ' H') : mForT K tl j tb D σ H := by
  unfold mForT
  exact h
/-- the ends of what runs while the thing at d is locked -/
def lkE (d : Addr) (f u : HO) (D : Ends) : Ends := ⟨fun σ' H' => H' d = some f ∧ D.nx σ' (upd H' d u), fun v H' => H' d = some f ∧ D.rt v (upd H' d u), fun σ' H' => H' d = some f ∧ D.bk σ' (upd H' d u), fun σ' H' => H' d = some f ∧ D.ct σ' (upd H' d u)⟩
def ForKT (d : Addr) (od : Obj) (E : List PK) (j : Nat) (tb : TS) (D : Ends) (σ : L2.St) (H1 : Hp) : Prop := ∃ Pv : Nat → L2.St → Hp → Prop, Pv 0 σ H1 ∧ (∀ k σ' H', k ≤ E.length → Pv k σ' H' → H' d = some (.frz od (.dT (E.map kvT)))) ∧
  (∀ k b e σ' H', E[k]? = some e → H' b = some (.tup [.int e.1.1, .int e.1.2]) → Pv k σ' H' → tb { lkE d (.frz od (.dT (E.map kvT))) (.dT (E.map kvT)) D with nx := Pv (k + 1), ct := Pv (k + 1), bk := (lkE d (.frz od (.dT (E.map kvT))) (.dT (E.map kvT)) D).nx } (σ'.set j (some (.ref b))) H') ∧
  ∀ σ' H', Pv E.length σ' H' → D.nx σ' (upd H' d (.dT (E.map kvT)))
@[irreducible] def mForKT (te : TE) (j : Nat) (tb : TS) : TS := fun D σ H => ∃ (d : Addr) (E : List PK), H d = some (.dT (E.map kvT)) ∧ ∀ od, te σ (upd H d (.frz od (.dT (E.map kvT)))) fun x H1 => x = .ref d ∧ H1 d = some (.frz od (.dT (E.map kvT))) ∧ ForKT d od E j tb D σ H1
theorem rd_forKT {te : TE} {j : Nat} {tb : TS} {D : Ends} {σ : L2.St} {H : Hp} (d : Addr) (E : List PK) (hd : H d = some (.dT (E.map kvT))) (h : ∀ od, te σ (upd H d (.frz od (.dT (E.map kvT)))) fun x H1 => x = .ref d ∧ H1 d = some (.frz od (.dT (E.map kvT))) ∧ ForKT d od E j tb D σ H1) : mForKT te j tb D σ H := by
  unfold mForKT
  exact ⟨d, E, hd, h⟩
section
variable {X : Cx} {pos : Pos}
theorem ps_forT {j : Nat} {x : Str} {it : Expr} {body : List Stmt} {tb : TS} {tl : TE} {xpos : Pos} (hp : PassesOwn (model X.prog X.w) X.A X.env X.xe) (hc : X.calm = true) (ha : PE X it tl) (hgt : PG X (.Name x xpos) (gName j)) (hb : PSs X body tb)
    (hs2 : ∀ y, foldedSetIterable it X.env y = pure y := by intro _; rfl) : PS X (.For (.Name x xpos) it body [] pos) (mForT X.K tl j tb) :=
  ps_weak (ps_for hp hc (pi_tup (pe_c ha)) hgt hb hs2) fun D σ H q => by
    unfold mForT at q
    refine ⟨_, q, fun x H1 r => ?_⟩
    obtain ⟨a, xs, Pv, rfl, hx, h0, hl, hs, hd⟩ := r
    refine ⟨a, rfl, ⟨xs, hx⟩, for_it walk_tup Pv h0 hl (fun i y σ' H' H'' hi p yy => ?_) hd⟩
    obtain ⟨rfl, hy⟩ := yy
    exact hs i y σ' _ hy p
theorem ps_forKT {j : Nat} {x : Str} {it : Expr} {body : List Stmt} {tb : TS} {te : TE} {xpos : Pos} (hp : PassesOwn (model X.prog X.w) X.A X.env X.xe) (hc : X.calm = true) (ha : PE X it te) (hgt : PG X (.Name x xpos) (gName j)) (hb : PSs X body tb)
    (hs2 : ∀ y, foldedSetIterable it X.env y = pure y := by intro _; rfl) : PS X (.For (.Name x xpos) it body [] pos) (mForKT te j tb) :=
  ps_weak (ps_lock (ps_for hp hc (pi_keys (pe_c ha)) hgt hb hs2)) fun D σ H q => by
    unfold mForKT at q
    obtain ⟨d, E, hd, q⟩ := q
    refine ⟨d, _, hd, trivial, fun od => ⟨_, q od, fun x H1 r => ?_⟩⟩
    obtain ⟨rfl, h1, Pv, h0, hG, hs, hq⟩ := r
    have lenE : (E.map kvT).length = E.length := List.length_map ..
    refine ⟨d, od, rfl, .inr ⟨_, h1, for_it walk_keysT Pv h0 (fun i σ' H' hi p => hG i σ' H' (by omega) p) (fun i y σ' H' H'' hi p yy => ?_) (fun σ' H' p => ?_)⟩⟩
    · obtain ⟨rfl, k, v, b, e1, rfl, hb2⟩ := yy
      rw [List.getElem?_map] at e1
      obtain ⟨e, he, e2⟩ := Option.map_eq_some_iff.mp e1
      have ek : k = kT e.1 := (congrArg Prod.fst e2).symm
      rw [ek] at hb2
      exact hs i b e σ' _ he hb2 p
    · rw [lenE] at p
      exact ⟨hG _ _ _ (Nat.le_refl _) p, hq σ' H' p⟩
end
/-! ### {(..): v for target in xs} -/
def DcT (D : Addr) (acc : List PK) (P : List PK → Hp → Prop) (y z : V) (H4 : Hp) : Prop := ∃ (p : Int × Int) (v : Int) (b : Addr), y = .ref b ∧ z = .int v ∧ H4 b = some (.tup [.int p.1, .int p.2]) ∧ H4 D = some (.dT (acc.map kvT)) ∧ P (tput acc p v) (upd H4 D (.dT ((tput acc p v).map kvT)))
@[irreducible] def DcWP (J : It) (g : TG) (tk tv : TE) (vs : List Nat) (σ : L2.St) (Q : VK) (H1 : Hp) : Prop := ∃ (n : Nat) (G : Hp → Prop) (Y : Nat → Hp → V → Hp → Prop), Walk J n G Y ∧ n ≤ 100000 ∧ ∀ D, H1 D = none → ∃ Pv : Nat → List PK → Hp → Prop, Pv 0 [] (upd H1 D (.dT [])) ∧
  (∀ i acc H', i ≤ n → acc.length ≤ i → H' D = some (.dT (acc.map kvT)) → Pv i acc H' → G H') ∧
  (∀ i acc x H' H'', i < n → acc.length ≤ i → H' D = some (.dT (acc.map kvT)) → Pv i acc H' → Y i H' x H'' → g x (wipe σ vs) H'' fun σ2 H2 => wipe σ2 vs = wipe σ vs ∧ tk σ2 H2 fun y H3 => tv σ2 H3 fun z H4 => DcT D acc (Pv (i + 1)) y z H4) ∧
  ∀ acc H', acc.length ≤ n → H' D = some (.dT (acc.map kvT)) → Pv n acc H' → Q (.ref D) H'
@[irreducible] def mDcW (wi : TI) (g : TG) (tk tv : TE) (vs : List Nat) : TE := fun σ H Q => wi σ H fun J H1 => DcWP J g tk tv vs σ Q H1
theorem rd_dcW {wi : TI} {g : TG} {tk tv : TE} {vs : List Nat} {σ : L2.St} {H : Hp} {Q : VK} (h : wi σ H fun J H1 => DcWP J g tk tv vs σ Q H1) : mDcW wi g tk tv vs σ H Q := by
  unfold mDcW
  exact h
theorem tput_len (E : List PK) (p : Int × Int) (v : Int) : (tput E p v).length ≤ E.length + 1 := by
  unfold tput
  split
  · rw [List.length_map]
    omega
  · rw [List.length_append]
    exact Nat.le_refl _
theorem dcW_of {g : TG} {tk tv : TE} {wi wi' : TI} {vs : List Nat} {σ : L2.St} {H : Hp} {Q : VK} (hw : IMono wi' wi) (q : mDcW wi' g tk tv vs σ H Q) : tDcT wi (cTG g) tYes (cTE tk) (cTE tv) vs σ H Q := by
  unfold mDcW at q
  refine hw _ _ _ _ (fun J H1 r => ?_) q
  unfold DcWP at r
  obtain ⟨n, G, Y, w, hn, r⟩ := r
  intro D hD
  obtain ⟨Pv, h0, hG, ht, hq⟩ := r D hD
  refine ⟨fun i m H' => m = n - i ∧ i ≤ n ∧ ∃ acc : List PK, acc.length ≤ i ∧ H' D = some (.dT (acc.map kvT)) ∧ Pv i acc H', ⟨n, rfl, Nat.zero_le _, [], Nat.le_refl _, upd_same, h0⟩, fun i m Hb p => ?_⟩
  obtain ⟨rfl, hi, acc, ha, hb, p⟩ := p
  have st := hG i acc Hb hi ha hb p
  by_cases hlt : i < n
  · refine .inr ⟨w.goes i Hb hlt st, fun Hc => i + 1 ≤ n ∧ ∃ acc2 : List PK, acc2.length ≤ i + 1 ∧ Hc D = some (.dT (acc2.map kvT)) ∧ Pv (i + 1) acc2 Hc, fun Hc z => ⟨n - (i + 1), by omega, rfl, z.1, z.2⟩, fun x Hc y => ⟨_, ht i acc x Hb Hc hlt ha hb p (w.yields i Hb x Hc hlt st y), fun σ2 Hd r => ⟨r.1, ?_⟩⟩⟩
    unfold tYes
    dsimp only
    rw [if_pos (rfl : true = true)]
    refine ⟨_, r.2, fun y2 Hf r2 => ⟨_, r2, fun z Hg r3 => ?_⟩⟩
    obtain ⟨pp, v, b, rfl, rfl, hb3, hD3, pn⟩ := r3
    refine ⟨acc.map kvT, kT pp, b, rfl, hb3, hD3, szl (by rw [List.length_map]; omega), ?_⟩
    rw [putK_T]
    have := tput_len acc pp v
    exact ⟨hlt, tput acc pp v, by omega, upd_same, pn⟩
  · have e : i = n := by omega
    subst e
    exact .inl ⟨w.stops Hb st, hq acc Hb ha hb p⟩
theorem pe_dcW {X : Cx} {kx vx tg iter : Expr} {scope : Scope} {own : List (Str × Nat)} {pos : Pos} {wi wi' : TI} {g : TG} {tk tv : TE} (vs : List Nat) (hw : IMono wi' wi) (hu : X.A.units < cLine) (hc : X.calm = true) (hN : X.N.Nodup) (hi : PI X tg iter wi) (ok : BlkOk X.N X.env.scope scope own)
    (pgs : ∀ (sh : Shared) (Hx : Hp) (C : Addr) (cl : List (Str × Addr)) (fp : List Addr), PG (X.blk sh Hx scope (compEnvC scope cl C X.env) fp) tg g)
    (pks : ∀ (sh : Shared) (Hx : Hp) (C : Addr) (cl : List (Str × Addr)) (fp : List Addr), PE (X.blk sh Hx scope (compEnvC scope cl C X.env) fp) kx tk)
    (pvs : ∀ (sh : Shared) (Hx : Hp) (C : Addr) (cl : List (Str × Addr)) (fp : List Addr), PE (X.blk sh Hx scope (compEnvC scope cl C X.env) fp) vx tv)
    (hvs : own.map (·.2) = vs := by rfl) (folded : ∀ x, foldedSetIterable iter X.env x = pure x := by intro _; rfl) : PE X (.DictComp kx vx [⟨tg, iter, [], 0⟩] scope pos) (mDcW wi' g tk tv vs) :=
  pe_weak (pe_dcT hu hc hN hi ok (fun sh Hx C cl fp => pg_c (pgs sh Hx C cl fp)) (fun _ _ _ _ _ => pts_nil) (fun sh Hx C cl fp => pe_c (pks sh Hx C cl fp)) (fun sh Hx C cl fp => pe_c (pvs sh Hx C cl fp)) folded) fun _ _ _ q => by
    rw [hvs]
    exact dcW_of hw q
/-- over a tuple of things that stay, its keys new ones -/
theorem wd_tup {K : PySem.W.Frag} {g : TG} {tk tv : TE} {vs : List Nat} {σ : L2.St} {H1 : Hp} {Q : VK} {a : Addr} {xs : List V} (E : List PK) (nd : (E.map Prod.fst).Nodup) (hn : E.length ≤ 100000) (hl : xs.length = E.length) (hx : SqT K H1 a xs)
    (ht : ∀ (i : Nat) (x : V) (e : PK) (H' : Hp) (Z : V → V → Hp → Prop), xs[i]? = some x → E[i]? = some e → Same H1 H' → (∀ (b : Addr) (H5 : Hp), Same H' H5 → H5 b = some (.tup [.int e.1.1, .int e.1.2]) → Z (.ref b) (.int e.2) H5) →
      g x (wipe σ vs) H' fun σ2 H2 => wipe σ2 vs = wipe σ vs ∧ tk σ2 H2 fun y H3 => tv σ2 H3 fun z H4 => Z y z H4)
    (hq : ∀ D H', H1 D = none → Same H1 H' → H' D = some (.dT (E.map kvT)) → Q (.ref D) H') : DcWP (Itt K a) g tk tv vs σ Q H1 := by
  unfold DcWP
  refine ⟨xs.length, _, _, walk_tup (K := K) (a := a) (xs := xs), by omega, fun D hD => ⟨fun i acc H' => acc = E.take i ∧ Same H1 H', ⟨rfl, same_upd hD⟩, fun i acc H' hi ha hb p => ?_, fun i acc x H' H'' hi ha hb p y => ?_, fun acc H' ha hb p => ?_⟩⟩
  · exact sqt_step hx p.2
  · obtain ⟨rfl, hxi⟩ := y
    obtain ⟨rfl, s⟩ := p
    have hiE : i < E.length := by omega
    refine ht i x E[i] H'' _ hxi (List.getElem?_eq_getElem hiE) s fun b H5 s5 hb5 => ⟨E[i].1, E[i].2, b, rfl, rfl, hb5, s5 _ _ hb, ?_, same_mut (s.trans s5) hD⟩
    have hnew : E[i].1 ∉ (E.take i).map Prod.fst := fun z => by
      obtain ⟨j, hj⟩ := List.getElem?_of_mem z
      rw [List.getElem?_map, List.getElem?_take] at hj
      by_cases hji : j < i
      · rw [if_pos hji, List.getElem?_eq_getElem (by omega)] at hj
        have e1 : E[j].1 = E[i].1 := Option.some.inj hj
        have n1 := (List.pairwise_iff_getElem.mp nd) j i (by rw [List.length_map]; omega) (by rw [List.length_map]; omega) hji
        rw [List.getElem_map, List.getElem_map] at n1
        exact n1 e1
      · rw [if_neg hji] at hj
        cases hj
    unfold tput
    rw [if_neg hnew, List.take_succ, List.getElem?_eq_getElem hiE]
    rfl
  · obtain ⟨rfl, s⟩ := p
    rw [hl, List.take_length] at hb
    exact hq D H' hD s hb
/-- a comprehension over a list, its items new tuples, the target of any form -/
theorem wl_tupsG {K : PySem.W.Frag} {g : TG} {te : TE} {vs : List Nat} {σ : L2.St} {H1 : Hp} {Q : VK} {a : Addr} (xs : List V) (f : Nat → List V) (hx : SqL K H1 a xs) (hn : xs.length ≤ 100000)
    (ht : ∀ (i : Nat) (y : V), xs[i]? = some y → ∀ (H' : Hp) (R : VK) (B : Hp → Prop), Same H1 H' → NewO (.tup (f i)) H' R → g y (wipe σ vs) H' fun σ2 H2 => wipe σ2 vs = wipe σ vs ∧ tYes σ2 H2 fun b H3 => Br b (te σ2 H3 fun y H4 => R y H4) (B H3))
    (hq : ∀ D ps H', H1 D = none → NT H1 D ps ((List.range xs.length).map f) H' → Q (.ref D) H') : LcWP (Itl K a) g tYes te vs σ Q H1 := by
  unfold LcWP
  refine ⟨xs.length, _, _, walk_list (K := K) (a := a) (xs := xs), hn, fun D hD => ⟨fun i acc H' => ∃ ps, acc = ps.map V.ref ∧ NT H1 D ps ((List.range i).map f) H', ⟨[], rfl, NT.start hD⟩, fun i acc H' _ _ _ p => ?_, fun i acc y H' H'' hi ha h2 p yy => ?_, fun acc H' ha h2 p => ?_⟩⟩
  · obtain ⟨ps, rfl, p⟩ := p
    exact p.sm.seq hx
  · obtain ⟨rfl, hy⟩ := yy
    obtain ⟨ps, rfl, p⟩ := p
    refine ht i y hy H'' _ _ p.sm fun t H3 nt s e => ⟨s _ _ h2, ps ++ [t], ?_, ?_⟩
    · rw [List.map_append]
      rfl
    · rw [List.range_succ, List.map_append]
      exact p.next hD nt s e
  · obtain ⟨ps, rfl, p⟩ := p
    exact hq D ps H' hD p
end My

namespace My
open PySem L2
/-! ### the text by places -/
def topS (i : Nat) : Stmt := PySem.Challenge.pw_bearerwise_k39_bills.main.body.getD i (.Pass ⟨0, 0, 0, 0⟩)
abbrev S_Meter___init__ : Stmt := inClass (topS 1) 0
abbrev S_Meter_add : Stmt := inClass (topS 1) 1
abbrev S_Meter_metered : Stmt := inClass (topS 1) 2
abbrev S_Meter__last_serial : Stmt := inClass (topS 1) 3
abbrev S_Meter_write : Stmt := inClass (topS 1) 4
abbrev S_Meter_last : Stmt := inClass (topS 1) 5
abbrev S_Meter_take : Stmt := inClass (topS 1) 6
abbrev S_Meter_is_settled : Stmt := inClass (topS 1) 7
abbrev S_Biller___init__ : Stmt := inClass (topS 2) 0
abbrev S_Biller_take : Stmt := inClass (topS 2) 1
abbrev S_Biller_bill : Stmt := inClass (topS 2) 2
abbrev S_u_law_next : Stmt := topS 4
abbrev S_u_law_rows : Stmt := topS 5
abbrev S_u_law_bills : Stmt := topS 6
abbrev S_law : Stmt := topS 7
theorem sc_Meter___init__ : FnScope ["self"] ["self"] (defScope S_Meter___init__) := ⟨rfl, rfl, rfl, by decide +kernel, rfl, by decide +kernel, by decide +kernel⟩
theorem sc_Meter_add : FnScope ["self", "bearer", "way", "size"] ["self", "bearer", "way", "size"] (defScope S_Meter_add) := ⟨rfl, rfl, rfl, by decide +kernel, rfl, by decide +kernel, by decide +kernel⟩
theorem sc_Meter_metered : FnScope ["self", "bearer", "way"] ["self", "bearer", "way"] (defScope S_Meter_metered) := ⟨rfl, rfl, rfl, by decide +kernel, rfl, by decide +kernel, by decide +kernel⟩
theorem sc_Meter__last_serial : FnScope ["self"] ["self"] (defScope S_Meter__last_serial) := ⟨rfl, rfl, rfl, by decide +kernel, rfl, by decide +kernel, by decide +kernel⟩
theorem sc_Meter_write : FnScope ["self", "sums", "bearer", "way"] ["self"] (defScope S_Meter_write) := ⟨rfl, rfl, rfl, by decide +kernel, rfl, by decide +kernel, by decide +kernel⟩
theorem sc_Meter_last : FnScope ["self"] ["self"] (defScope S_Meter_last) := ⟨rfl, rfl, rfl, by decide +kernel, rfl, by decide +kernel, by decide +kernel⟩
theorem sc_Meter_take : FnScope ["self", "serial"] ["self", "serial"] (defScope S_Meter_take) := ⟨rfl, rfl, rfl, by decide +kernel, rfl, by decide +kernel, by decide +kernel⟩
theorem sc_Meter_is_settled : FnScope ["self"] ["self"] (defScope S_Meter_is_settled) := ⟨rfl, rfl, rfl, by decide +kernel, rfl, by decide +kernel, by decide +kernel⟩
theorem sc_Biller___init__ : FnScope ["self"] ["self"] (defScope S_Biller___init__) := ⟨rfl, rfl, rfl, by decide +kernel, rfl, by decide +kernel, by decide +kernel⟩
theorem sc_Biller_take : FnScope ["self", "letter", "serial", "sums", "bearer", "way", "size"] ["self", "letter"] (defScope S_Biller_take) := ⟨rfl, rfl, rfl, by decide +kernel, rfl, by decide +kernel, by decide +kernel⟩
theorem sc_Biller_bill : FnScope ["self", "bearer", "way"] ["self", "bearer", "way"] (defScope S_Biller_bill) := ⟨rfl, rfl, rfl, by decide +kernel, rfl, by decide +kernel, by decide +kernel⟩
theorem sc_u_law_next : FnScope ["tape", "many", "rest", "cell"] ["tape", "many"] (defScope S_u_law_next) := ⟨rfl, rfl, rfl, by decide +kernel, rfl, by decide +kernel, by decide +kernel⟩
theorem sc_u_law_rows : FnScope ["sums", "name"] ["sums"] (defScope S_u_law_rows) := ⟨rfl, rfl, rfl, by decide +kernel, rfl, by decide +kernel, by decide +kernel⟩
theorem sc_u_law_bills : FnScope ["biller", "letters", "newest", "sums", "before", "bearer", "way", "due", "row", "told"] ["biller", "letters", "newest", "sums", "before"] (defScope S_u_law_bills) := ⟨rfl, rfl, rfl, by decide +kernel, rfl, by decide +kernel, by decide +kernel⟩
theorem sc_law : FnScope ["script", "tape", "meter", "biller", "sums", "letters", "answers", "newest", "known", "clean", "before", "turn", "kind", "bearer", "way", "size", "letter", "answer", "settled", "name"] ["script"] (defScope S_law) := ⟨rfl, rfl, rfl, by decide +kernel, rfl, by decide +kernel, by decide +kernel⟩
/-! ### what the top has written -/
structure Tx (P : Program) (w : World) (K : PySem.W.Frag) (mg : Str → Option Value) (base : Heap) where
  n_len : mg "len" = none
  n_range : mg "range" = none
  n_abs : mg "abs" = none
  n_int : mg "int" = none
  n_min : mg "min" = none
  n_max : mg "max" = none
  n_isinstance : mg "isinstance" = none
  n_list : mg "list" = none
  n_tuple : mg "tuple" = none
  n_bool : mg "bool" = none
  n_sorted : mg "sorted" = none
  C_Meter : Addr
  g_Meter : mg "Meter" = some (.ref C_Meter)
  C_Biller : Addr
  g_Biller : mg "Biller" = some (.ref C_Biller)
  a_Meter___init__ : Addr
  d_Meter___init__ : FuncData
  p_Meter___init__ : MethAt K C_Meter "__init__" "Meter.__init__" S_Meter___init__ ["self"] a_Meter___init__ d_Meter___init__
  a_Meter_add : Addr
  d_Meter_add : FuncData
  p_Meter_add : MethAt K C_Meter "add" "Meter.add" S_Meter_add ["self", "bearer", "way", "size"] a_Meter_add d_Meter_add
  a_Meter_metered : Addr
  d_Meter_metered : FuncData
  p_Meter_metered : MethAt K C_Meter "metered" "Meter.metered" S_Meter_metered ["self", "bearer", "way"] a_Meter_metered d_Meter_metered
  a_Meter__last_serial : Addr
  d_Meter__last_serial : FuncData
  p_Meter__last_serial : MethAt K C_Meter "_last_serial" "Meter._last_serial" S_Meter__last_serial ["self"] a_Meter__last_serial d_Meter__last_serial
  a_Meter_write : Addr
  d_Meter_write : FuncData
  p_Meter_write : MethAt K C_Meter "write" "Meter.write" S_Meter_write ["self"] a_Meter_write d_Meter_write
  a_Meter_last : Addr
  d_Meter_last : FuncData
  p_Meter_last : MethAt K C_Meter "last" "Meter.last" S_Meter_last ["self"] a_Meter_last d_Meter_last
  a_Meter_take : Addr
  d_Meter_take : FuncData
  p_Meter_take : MethAt K C_Meter "take" "Meter.take" S_Meter_take ["self", "serial"] a_Meter_take d_Meter_take
  a_Meter_is_settled : Addr
  d_Meter_is_settled : FuncData
  p_Meter_is_settled : MethAt K C_Meter "is_settled" "Meter.is_settled" S_Meter_is_settled ["self"] a_Meter_is_settled d_Meter_is_settled
  a_Biller___init__ : Addr
  d_Biller___init__ : FuncData
  p_Biller___init__ : MethAt K C_Biller "__init__" "Biller.__init__" S_Biller___init__ ["self"] a_Biller___init__ d_Biller___init__
  a_Biller_take : Addr
  d_Biller_take : FuncData
  p_Biller_take : MethAt K C_Biller "take" "Biller.take" S_Biller_take ["self", "letter"] a_Biller_take d_Biller_take
  a_Biller_bill : Addr
  d_Biller_bill : FuncData
  p_Biller_bill : MethAt K C_Biller "bill" "Biller.bill" S_Biller_bill ["self", "bearer", "way"] a_Biller_bill d_Biller_bill
  a_u_law_next : Addr
  d_u_law_next : FuncData
  p_u_law_next : DefAt K mg "_law_next" "_law_next" S_u_law_next ["tape", "many"] a_u_law_next d_u_law_next
  a_u_law_rows : Addr
  d_u_law_rows : FuncData
  p_u_law_rows : DefAt K mg "_law_rows" "_law_rows" S_u_law_rows ["sums"] a_u_law_rows d_u_law_rows
  a_u_law_bills : Addr
  d_u_law_bills : FuncData
  p_u_law_bills : DefAt K mg "_law_bills" "_law_bills" S_u_law_bills ["biller", "letters", "newest", "sums", "before"] a_u_law_bills d_u_law_bills
  a_law : Addr
  d_law : FuncData
  p_law : DefAt K mg "law" "law" S_law ["script"] a_law d_law
  k_Meter : ClsAt K C_Meter a_Meter___init__
  f_Meter__sums : NoAttr K C_Meter "_sums"
  f_Meter__last : NoAttr K C_Meter "_last"
  f_Meter__answered : NoAttr K C_Meter "_answered"
  f_Meter__has_more : NoAttr K C_Meter "_has_more"
  k_Biller : ClsAt K C_Biller a_Biller___init__
  f_Biller__serial : NoAttr K C_Biller "_serial"
  f_Biller__bills : NoAttr K C_Biller "_bills"
/-! ### the walk's own steps -/
local macro_rules | `(tactic| walk_at "side") => `(tactic| first
  | exact rfl
  | assumption
  | omega
  | decide
  | exact Nat.le_of_ble_eq_true rfl
  | exact ⟨by omega, by omega⟩
  | exact ⟨by omega, by omega, by omega⟩
  | exact Or.inl ⟨by omega, by omega⟩
  | exact Or.inr ⟨by omega, by omega⟩)
local macro_rules | `(tactic| walk_at "sm") => `(tactic| first
  | assumption
  | exact Same.refl _
  | (apply Own.imm; assumption)
  | (apply Own.same; assumption)
  | (refine Same.trans ?_ (by assumption); walk_at "sm")
  | (apply Same.trans; rotate_left; (apply Own.imm; assumption); walk_at "sm")
  | (apply Same.trans; rotate_left; (apply Own.same; assumption); walk_at "sm"))
local macro_rules | `(tactic| walk_at "mem") => `(tactic| first
  | exact List.Mem.head _
  | (apply List.Mem.tail; walk_at "mem"))
local macro_rules | `(tactic| walk_at "nn") => `(tactic| first
  | assumption
  | (refine same_none (?_ : Same _ _) (by assumption); walk_at "sm"))
local macro_rules | `(tactic| walk_at "hp") => `(tactic| first
  | assumption
  | (apply Own.mem; assumption; walk_at "mem")
  | (apply hp_step; assumption; walk_at "sm"))
local macro_rules | `(tactic| walk_at "sq") => `(tactic| first
  | assumption
  | (apply sq_of; assumption)
  | (apply st_of; assumption)
  | (apply sq_step; assumption; walk_at "sm")
  | (apply sqt_step; assumption; walk_at "sm")
  | (apply sq_of; walk_at "hp")
  | (apply st_of; walk_at "hp"))
local macro_rules | `(tactic| walk_at "rd") => `(tactic| first
  | refine ⟨_, rfl, ?_⟩
  | refine ⟨_, _, rfl, rfl, ?_⟩
  | refine Or.inl ⟨_, rfl, ?_⟩
  | refine Or.inr ⟨_, rfl, ?_⟩
  | refine ⟨_, _, _, rfl, ?_⟩
  | with_reducible refine br_nonI ?_
  | with_reducible refine br_nonR ?_
  | with_reducible refine br_nonN ?_
  | with_reducible refine br_xnonI ?_
  | with_reducible refine br_xnonR ?_
  | with_reducible refine br_xnonN ?_
  | refine And.intro (by walk_at "side") ?_
  | refine rd_tup ?_
  | refine rd_lst ?_
  | with_reducible refine br_F ?_
  | with_reducible refine br_T ?_
  | with_reducible refine br_nF ?_
  | with_reducible refine br_nT ?_
  | refine ⟨_, rfl, rfl, ?_⟩
  | with_reducible refine rd_yes ?_
  | refine rd_isiIB ?_
  | refine rd_isiII ?_
  | refine rd_getF (by walk_at "hp") rfl ?_
  | refine rd_ins (by walk_at "hp") rfl ?_
  | refine rd_din (by walk_at "hp") ?_
  | refine rd_dnotin (by walk_at "hp") ?_
  | refine rd_truB ?_
  | refine rd_truL (by walk_at "sq") ?_
  | refine rd_sum (by walk_at "sq") ?_
  | refine rd_lenI (by walk_at "sq") ?_
  | refine rd_len (by walk_at "sq") ?_
  | refine ⟨_, _, rfl, (show _ = some _ from by walk_at "hp"), ?_⟩)

section
variable {P : Program} {w : World} {K : PySem.W.Frag} {mg : Str → Option Value} {base : Heap}
/-- the law's tape: its cells, the next one, what is left of it, the seed -/
def sp_u_law_next (K : PySem.W.Frag) : Sp := fun vs H Q _ => ∃ (t a : Addr) (ns : List Int) (i r s' many : Int), vs = [.ref t, .int many] ∧ H t = some (.lst [.ref a, .int i, .int r, .int s']) ∧ SqL K H a (ns.map V.int) ∧ (0 ≤ i ∧ i ≤ (ns.length : Int)) ∧ 0 ≤ r ∧ (0 ≤ s' ∧ s' < 2147483647) ∧ (1 ≤ many ∧ many ≤ 1000) ∧
  ∀ (x i' r' z : Int), 0 ≤ x → x < many → (0 ≤ i' ∧ i' ≤ (ns.length : Int)) → 0 ≤ r' → (0 ≤ z ∧ z < 2147483647) → Q (.int x) (upd H t (.lst [.ref a, .int i', .int r', .int z]))
@[irreducible] def ip_u_law_next (K : PySem.W.Frag) : Sp := sp_u_law_next K
theorem op_u_law_next {K : PySem.W.Frag} {vs : List V} {H : Hp} {Q : VK} {E : XK} (h : sp_u_law_next K vs H Q E) : ip_u_law_next K vs H Q E := by
  unfold ip_u_law_next
  exact h
theorem un_u_law_next {K : PySem.W.Frag} {vs : List V} {H : Hp} {Q : VK} {E : XK} (h : ip_u_law_next K vs H Q E) : sp_u_law_next K vs H Q E := by
  unfold ip_u_law_next at h
  exact h
theorem ok_u_law_next (T : Tx P w K mg base) : FnOk P w K mg base CX0 1 T.a_u_law_next T.d_u_law_next ["tape", "many"] (ip_u_law_next K) := by
  refine T.p_u_law_next.F.ok sc_u_law_next (fun vs H Q E h => ?_) (fun cdv A outer s H vs Q E hr h => ?_)
  · obtain ⟨t, a, ns, i, r, s', many, rfl, hT, hS, hi, hr0, hs0, hm, q⟩ := un_u_law_next h
    rfl
  · obtain ⟨t, a, ns, i, r, s', many, rfl, hT, hS, hi, hr0, hs0, hm, q⟩ := un_u_law_next h
    refine ⟨_, (pss_cons (ps_set (i := 2) sc_u_law_next.nd rfl (Or.inl rfl) (pe_ix ix_listM (pv 0) pe_int (fun _ _ => rfl))) (pss_cons (ps_ifM (pt_cmpR op_eq (pv 2) pe_int (nomark _)) (pss_cons (ps_set (i := 3) sc_u_law_next.nd rfl (Or.inl rfl) pe_int) (pss_cons (ps_ifJ (pt_cmpR op_ltM (pe_ix ix_listM (pv 0) pe_int (fun _ _ => rfl)) (pe_callB call_lenM (by rfl) T.n_len PySem.boot_len (pa_cons (pe_ix ix_listM (pv 0) pe_int (fun _ _ => rfl)) pa_nil)) (nomark _)) (pss_cons (ps_set (i := 3) sc_u_law_next.nd rfl (Or.inl rfl) (pe_callB call_abs (by rfl) T.n_abs (by decide +kernel) (pa_cons (pe_callTy call_int1 (by rfl) T.n_int (by decide +kernel) (pa_cons (pe_ix ix_listM (pe_ix ix_listM (pv 0) pe_int (fun _ _ => rfl)) (pe_ix ix_listM (pv 0) pe_int (fun _ _ => rfl)) (fun _ _ => rfl)) pa_nil)) pa_nil))) (pss_one (ps_asg (pe_op op_addM (pe_ix ix_listM (pv 0) pe_int (fun _ _ => rfl)) pe_int) (pg_sub (pv 0) pe_int set_listM)))) pss_nil) (pss_cons (ps_set (i := 2) sc_u_law_next.nd rfl (Or.inl rfl) (pv 3)) (pss_one (ps_ifM (pt_cmpR op_ltM (pv 3) (pe_op op_powM pe_int pe_int) (nomark _)) (pss_cons (ps_asg (pe_op op_modM (pe_callTy call_int1 (by rfl) T.n_int (by decide +kernel) (pa_cons (pe_op op_addM (pe_op op_addM (pe_op op_mulM (pe_ix ix_listM (pv 0) pe_int (fun _ _ => rfl)) pe_int) (pe_op op_mulM (pv 3) pe_int)) pe_int) pa_nil)) pe_int) (pg_sub (pv 0) pe_int set_listM)) (pss_one (ps_ret (pe_op op_modM (pe_op op_modM (pe_callTy call_int1 (by rfl) T.n_int (by decide +kernel) (pa_cons (pe_op op_mulM (pe_op op_fdivM (pe_ix ix_listM (pv 0) pe_int (fun _ _ => rfl)) pe_int) pe_int) pa_nil)) pe_int) (pv 1))))) pss_nil))))) pss_nil) (pss_cons (ps_asg (pe_op op_fdivM (pv 2) (pv 1)) (pg_sub (pv 0) pe_int set_listM)) (pss_one (ps_ret (pe_op op_modM (pe_callTy call_int1 (by rfl) T.n_int (by decide +kernel) (pa_cons (pv 2) pa_nil)) (pv 1))))))), ?_⟩
    have self : upd H t (.lst [.ref a, .int i, .int r, .int s']) = H := by
      funext b
      by_cases e : b = t
      · rw [e, upd_same, hT]
      · rw [upd_ne e]
    (repeat walk_at "rd")
    refine rd_ixL (sq_of hT) rfl ?_
    (repeat walk_at "rd")
    refine br_eby (fun h => ?_) (fun h => ?_)
    · (repeat walk_at "rd")
      refine rd_ixL (sq_of hT) rfl ?_
      (repeat walk_at "rd")
      refine rd_ixL (sq_of hT) rfl ?_
      (repeat walk_at "rd")
      refine rd_ifJ (fun σ' H' => Stop (∃ (i' cell : Int), (0 ≤ i' ∧ i' ≤ (ns.length : Int)) ∧ 0 ≤ cell ∧ H' = upd H t (.lst [.ref a, .int i', .int r, .int s']) ∧ σ' = [some (.ref t), some (.int many), some (.int r), some (.int cell)])) (fun h1 => ?_) (fun h1 => ?_) (fun σ' H' w => ?_)
      · have h1 := of_decide_eq_true h1
        (repeat walk_at "rd")
        refine rd_ixL (sq_of hT) rfl ?_
        (repeat walk_at "rd")
        refine rd_ixL (sq_of hT) rfl ?_
        (repeat walk_at "rd")
        refine rd_ixI hS hi.1 h1 ?_
        have hc : ∃ c : Int, (if ns.getD i.toNat 0 < 0 then -ns.getD i.toNat 0 else ns.getD i.toNat 0) = c ∧ 0 ≤ c := by
          refine ⟨_, rfl, ?_⟩
          split <;> omega
        obtain ⟨c, ec, hc0⟩ := hc
        (repeat walk_at "rd")
        rw [ec]
        refine rd_ixL (sq_of hT) rfl ?_
        (repeat walk_at "rd")
        refine rd_setL hT (by decide) (by exact Int.lt_of_lt_of_le (by decide : (1 : Int) < 4) (Int.le_refl _)) ?_
        refine .a ⟨i + 1, c, ⟨by omega, by omega⟩, hc0, rfl, rfl⟩
      · exact .a ⟨i, 0, hi, Int.le_refl _, self.symm, rfl⟩
      obtain ⟨i', cell, hi', hc0, rfl, rfl⟩ := w.un
      have hT2 : upd H t (.lst [.ref a, .int i', .int r, .int s']) t = some (.lst [.ref a, .int i', .int r, .int s']) := upd_same
      (repeat walk_at "rd")
      refine br_by (fun h2 => ?_) (fun h2 => ?_)
      · (repeat walk_at "rd")
        refine rd_ixL (sq_of hT2) rfl ?_
        (repeat walk_at "rd")
        refine rd_setL hT2 (by decide) (by exact Int.lt_of_lt_of_le (by decide : (3 : Int) < 4) (Int.le_refl _)) ?_
        rw [upd_upd]
        generalize hz : (s' * 69621 + cell * 40692 + 17) % 2147483647 = z
        have hz0 : 0 ≤ z ∧ z < 2147483647 := by omega
        have hT3 : upd H t (.lst [.ref a, .int i', .int r, .int z]) t = some (.lst [.ref a, .int i', .int r, .int z]) := upd_same
        (repeat walk_at "rd")
        refine rd_ixL (sq_of hT3) rfl ?_
        (repeat walk_at "rd")
        exact q _ i' r z (Int.emod_nonneg _ (by omega)) (Int.emod_lt_of_pos _ (by omega)) hi' hr0 hz0
      · (repeat walk_at "rd")
        refine rd_setL hT2 (by decide) (by exact Int.lt_of_lt_of_le (by decide : (2 : Int) < 4) (Int.le_refl _)) ?_
        (repeat walk_at "rd")
        rw [upd_upd]
        exact q (cell % many) i' (cell / many) s' (Int.emod_nonneg _ (by omega)) (Int.emod_lt_of_pos _ (by omega)) hi' (Int.ediv_nonneg hc0 (by omega)) hs0
    · (repeat walk_at "rd")
      refine rd_setL hT (by decide) (by exact Int.lt_of_lt_of_le (by decide : (2 : Int) < 4) (Int.le_refl _)) ?_
      (repeat walk_at "rd")
      exact q (r % many) i (r / many) s' (Int.emod_nonneg _ (by omega)) (Int.emod_lt_of_pos _ (by omega)) hi (Int.ediv_nonneg hr0 (by omega)) hs0
end
def tapeL (a : Addr) (i r z : Int) : HO := .lst [.ref a, .int i, .int r, .int z]
structure TapeOk2 (ns : List Int) (i r z : Int) : Prop where
  i : 0 ≤ i ∧ i ≤ (ns.length : Int)
  r : 0 ≤ r
  z : 0 ≤ z ∧ z < 2147483647
section
variable {P : Program} {w : World} {K : PySem.W.Frag} {mg : Str → Option Value} {base : Heap}
end
/-- only the tape has moved -/
structure TpN (t a : Addr) (ns : List Int) (H H' : Hp) : Prop where
  tp : ∃ i r z, TapeOk2 ns i r z ∧ H' t = some (tapeL a i r z)
  but : ∀ b o, b ≠ t → H b = some o → H' b = some o
theorem TpN.start {t a : Addr} {ns : List Int} {H : Hp} {i r z : Int} (ok : TapeOk2 ns i r z) (h : H t = some (tapeL a i r z)) : TpN t a ns H H := ⟨⟨i, r, z, ok, h⟩, fun _ _ _ h => h⟩
theorem TpN.trans {t a : Addr} {ns : List Int} {H H1 H2 : Hp} (h : TpN t a ns H H1) (k : TpN t a ns H1 H2) : TpN t a ns H H2 := ⟨k.tp, fun b o hb e => k.but b o hb (h.but b o hb e)⟩
theorem TpN.more {t a : Addr} {ns : List Int} {H H1 H2 : Hp} (h : TpN t a ns H H1) (s : Same H1 H2) : TpN t a ns H H2 := by
  obtain ⟨i, r, z, ok, e⟩ := h.tp
  exact ⟨⟨i, r, z, ok, s _ _ e⟩, fun b o hb e => s _ _ (h.but b o hb e)⟩
theorem TpN.seq {K : PySem.W.Frag} {t a b : Addr} {ns : List Int} {H H1 : Hp} {xs : List V} (h : TpN t a ns H H1) (hb : b ≠ t) (k : SqL K H b xs) : SqL K H1 b xs := by
  rcases k with (k | ⟨o, k⟩) | k
  · exact sq_of (h.but _ _ hb k)
  · exact .inl (.inr ⟨o, h.but _ _ hb k⟩)
  · exact .inr k
/-- the promise of _law_next, told by TpN -/
theorem next_tp {K : PySem.W.Frag} {t a : Addr} {ns : List Int} {H : Hp} {many : Int} {Q : VK} {E : XK} (hT : ∃ i r z, TapeOk2 ns i r z ∧ H t = some (tapeL a i r z)) (hS : SqL K H a (ns.map V.int)) (hm : 1 ≤ many ∧ many ≤ 1000)
    (q : ∀ (x : Int) (H' : Hp), 0 ≤ x → x < many → TpN t a ns H H' → Q (.int x) H') : ip_u_law_next K [.ref t, .int many] H Q E := by
  obtain ⟨i, r, z, ok, e⟩ := hT
  refine op_u_law_next ⟨t, a, ns, i, r, z, many, rfl, e, hS, ok.i, ok.r, ok.z, hm, fun x i' r' z' h0 h1 h2 h3 h4 => q x _ h0 h1 ⟨⟨i', r', z', ⟨h2, h3, h4⟩, upd_same⟩, fun b o hb hh => ?_⟩⟩
  rw [upd_ne hb]
  exact hh
/-- a comprehension over range whose turns move the tape alone -/
theorem wl_tape {t a : Addr} {ns : List Int} {j : Nat} {te : TE} {σ : L2.St} {H1 : Hp} {Q : VK} {n : Nat} (P : V → Prop) (hn : n ≤ 100000) (h0 : TpN t a ns H1 H1)
    (he : ∀ i : Nat, i < n → ∀ (H' : Hp) (R : VK), TpN t a ns H1 H' → (∀ y H4, P y → TpN t a ns H' H4 → R y H4) → te ((wipe σ [j]).set j (some (.int (i : Nat)))) H' R)
    (hq : ∀ D xs H', H1 D = none → xs.length = n → (∀ x ∈ xs, P x) → TpN t a ns H1 H' → H' D = some (.lst xs) → Q (.ref D) H') : LcWP (Itr 0 n) (gName j) tYes te [j] σ Q H1 := by
  have ht : ∃ o, H1 t = some o := by
    obtain ⟨i, r, z, ok, e⟩ := h0.tp
    exact ⟨_, e⟩
  have updn : ∀ {D : Addr} {o : HO} {H2 : Hp}, H1 D = none → TpN t a ns H1 H2 → TpN t a ns H1 (upd H2 D o) := fun {D o H2} hD h => by
    obtain ⟨i, r, z, ok, e⟩ := h.tp
    have hDt : t ≠ D := fun z => by
      obtain ⟨o, ho⟩ := ht
      rw [z, hD] at ho
      cases ho
    refine ⟨⟨i, r, z, ok, by rw [upd_ne hDt]; exact e⟩, fun b o hb hh => ?_⟩
    have hbD : b ≠ D := fun z => by
      rw [z, hD] at hh
      cases hh
    rw [upd_ne hbD]
    exact h.but b o hb hh
  refine wl_rng hn fun D hD => ⟨fun i acc H' => acc.length = i ∧ (∀ x ∈ acc, P x) ∧ TpN t a ns H1 H', ⟨rfl, fun x hx => (nomatch hx), updn hD h0⟩, fun i acc H' hi ha h2 p => ?_, fun acc H' ha h2 p => hq D acc H' hD p.1 p.2.1 p.2.2 h2⟩
  obtain ⟨p1, p2, p3⟩ := p
  have hDt : D ≠ t := fun z => by
    obtain ⟨o, ho⟩ := ht
    rw [← z, hD] at ho
    cases ho
  rw [Int.zero_add]
  show _ ∧ _
  refine ⟨wipe_set rfl, ?_⟩
  show Br true _ _
  refine br_T (he i hi H' _ p3 fun y H4 hy h4 => ⟨h4.but _ _ hDt h2, ?_, fun x hx => ?_, updn hD (p3.trans h4)⟩)
  · rw [List.length_append, p1]
    rfl
  · rcases List.mem_append.mp hx with hx | hx
    · exact p2 x hx
    · rw [List.mem_singleton.mp hx]
      exact hy
theorem ints_of {p : Int → Prop} : ∀ {xs : List V}, (∀ x ∈ xs, ∃ n, x = .int n ∧ p n) → ∃ ns : List Int, xs = ns.map V.int ∧ ∀ n ∈ ns, p n
  | [], _ => ⟨[], rfl, fun n hn => (nomatch hn)⟩
  | x :: r, h => by
    obtain ⟨n, rfl, hn⟩ := h x (.head _)
    obtain ⟨ns, rfl, hns⟩ := ints_of (xs := r) fun y hy => h y (.tail _ hy)
    exact ⟨n :: ns, rfl, fun m hm => (List.mem_cons.mp hm).elim (fun e => e ▸ hn) (hns m)⟩
theorem bls_of : ∀ {xs : List V}, (∀ x ∈ xs, ∃ b, x = .bl b) → ∃ bs : List Bool, xs = bs.map V.bl
  | [], _ => ⟨[], rfl⟩
  | x :: r, h => by
    obtain ⟨n, rfl⟩ := h x (.head _)
    obtain ⟨ns, rfl⟩ := bls_of (xs := r) fun y hy => h y (.tail _ hy)
    exact ⟨n :: ns, rfl⟩
/-- what is owned, behind a move of the tape -/
theorem Own.tape {S B0 B H H' : Hp} {as : List Addr} {l : List (Addr × HO)} {t a : Addr} {ns : List Int} {o : HO} (w : Own S B0 as B ((t, o) :: l) H) (h : TpN t a ns H H') : ∃ i r z, TapeOk2 ns i r z ∧ Own S B0 as B ((t, tapeL a i r z) :: l) H' := by
  obtain ⟨i, r, z, ok, e⟩ := h.tp
  refine ⟨i, r, z, ok, ⟨⟨fun b u hb => ?_, w.c.nd, fun b u hb => h.but b u (fun z => ?_) (w.imm _ _ hb), fun b u hb => ?_⟩, fun b u hb hs => h.but b u (fun z => ?_) (w.kept b u hb hs), fun b u hb => ?_, w.grow, w.new, fun b hb => ?_⟩⟩
  · rcases List.mem_cons.mp hb with hb | hb
    · cases hb
      exact e
    · exact h.but b u (nd_ne w.c.nd hb) (w.mem (.tail _ hb))
  · have := w.c.dis t o (.head _)
    rw [← z, hb] at this
    cases this
  · rcases List.mem_cons.mp hb with hb | hb
    · cases hb
      exact w.c.dis t o (.head _)
    · exact w.c.dis b u (.tail _ hb)
  · subst z
    rcases w.own b o (.head _) with h1 | h1
    · exact hb h1
    · rw [h1] at hs
      cases hs
  · rcases List.mem_cons.mp hb with hb | hb
    · cases hb
      exact w.own t o (.head _)
    · exact w.own b u (.tail _ hb)
  · by_cases z : b = t
    · rw [z, e]
      exact fun y => nomatch y
    · have h1 := w.there b hb
      cases h2 : H b with
      | none => exact absurd h2 h1
      | some u =>
        rw [h.but b u z h2]
        exact fun y => nomatch y
/-- and a list that is new -/
theorem Own.tapeD {S B0 B H H' : Hp} {as : List Addr} {l : List (Addr × HO)} {t a D : Addr} {ns : List Int} {o u : HO} (w : Own S B0 as B ((t, o) :: l) H) (h : TpN t a ns H H') (hD : H D = none) (e : H' D = some u) :
    ∃ B' i r z, Same B B' ∧ B' D = some u ∧ TapeOk2 ns i r z ∧ Own S B0 as B' ((t, tapeL a i r z) :: l) H' := by
  obtain ⟨i, r, z, ok, w2⟩ := w.tape h
  obtain ⟨B', s1, s2, w3⟩ := w2.adopt2 [D] fun p hp => by
    rw [List.mem_singleton.mp hp]
    refine ⟨(w.frS hD).1, by rw [e]; exact fun y => (nomatch y), fun hm => ?_⟩
    have hm : D ∈ ((t, o) :: l).map Prod.fst := hm
    obtain ⟨v, hv⟩ := fst_mem hm
    exact w.notin hD hv
  exact ⟨B', i, r, z, s1, (s2 D (.head _)).trans e, ok, w3⟩
section
variable {P : Program} {w : World} {K : PySem.W.Frag} {mg : Str → Option Value} {base : Heap}
end
/-! ### meters and billers -/
structure MtA where
  p : Addr
  dx : Addr
  sd : Addr
structure MtS where
  E : List PK
  lv : V
  n : Int
  ans : Int
  more : Bool
def MtS.fs (s : MtS) (A : MtA) : List (Str × V) := [("_sums", .ref A.sd), ("_last", s.lv), ("_answered", .int s.ans), ("_has_more", .bl s.more)]
def mcells (C : Addr) (A : MtA) (s : MtS) : List (Addr × HO) := [(A.p, .ins C A.dx (s.fs A)), (A.sd, .dT (s.E.map kvT))]
/-- a letter: its serial, and its rows -/
structure RtAt (H : Hp) (rt : Addr) (R : List PK) : Prop where
  ex : ∃ ts : List Addr, H rt = some (.tup (ts.map V.ref)) ∧ ts.length = R.length ∧ ∀ (i : Nat) (t : Addr) (e : PK), ts[i]? = some t → R[i]? = some e → H t = some (.tup [.int e.1.1, .int e.1.2, .int e.2])
structure LtAt (H : Hp) (l : Addr) (n : Int) (R : List PK) : Prop where
  ex : ∃ rt : Addr, H l = some (.tup [.int n, .ref rt]) ∧ RtAt H rt R
theorem RtAt.mono {H H' : Hp} {rt : Addr} {R : List PK} (h : RtAt H rt R) (s : Same H H') : RtAt H' rt R := by
  obtain ⟨ts, h1, h2, h3⟩ := h.ex
  exact ⟨ts, s _ _ h1, h2, fun i t e e1 e2 => s _ _ (h3 i t e e1 e2)⟩
theorem LtAt.mono {H H' : Hp} {l : Addr} {n : Int} {R : List PK} (h : LtAt H l n R) (s : Same H H') : LtAt H' l n R := by
  obtain ⟨rt, h1, h2⟩ := h.ex
  exact ⟨rt, s _ _ h1, h2.mono s⟩
/-- the rows of the sums, in their order -/
structure RowsOf (E R : List PK) : Prop where
  pm : (R.map Prod.fst).Perm (E.map Prod.fst)
  asc : (R.map Prod.fst).Pairwise leP
  val : ∀ e ∈ R, tget E e.1 = some e.2
def LastAt (H : Hp) (v : V) (n : Int) : Prop := (v = .non ∧ n = 0) ∨ ∃ l rt, v = .ref l ∧ H l = some (.tup [.int n, .ref rt])
theorem LastAt.mono {H H' : Hp} {v : V} {n : Int} (h : LastAt H v n) (s : Same H H') : LastAt H' v n := by
  rcases h with h | ⟨l, rt, e, h⟩
  · exact .inl h
  · exact .inr ⟨l, rt, e, s _ _ h⟩
section
variable {P : Program} {w : World} {K : PySem.W.Frag} {mg : Str → Option Value} {base : Heap}
def sp_Meter___init__ (K : PySem.W.Frag) (C : Addr) : Sp := fun vs H Q _ => ∃ (p dx : Addr) (B : Hp), vs = [.ref p] ∧ Cells H B [(p, .ins C dx [])] ∧ ∀ (A : MtA) (H' : Hp), A.p = p → Own H B [p] B (mcells C A ⟨[], .non, 0, 0, false⟩) H' → Q .non H'
@[irreducible] def ip_Meter___init__ (K : PySem.W.Frag) (C : Addr) : Sp := sp_Meter___init__ K C
theorem op_Meter___init__ {K : PySem.W.Frag} {C : Addr} {vs : List V} {H : Hp} {Q : VK} {E : XK} (h : sp_Meter___init__ K C vs H Q E) : ip_Meter___init__ K C vs H Q E := by
  unfold ip_Meter___init__
  exact h
theorem un_Meter___init__ {K : PySem.W.Frag} {C : Addr} {vs : List V} {H : Hp} {Q : VK} {E : XK} (h : ip_Meter___init__ K C vs H Q E) : sp_Meter___init__ K C vs H Q E := by
  unfold ip_Meter___init__ at h
  exact h
theorem ok_Meter___init__ (T : Tx P w K mg base) : FnOk P w K mg base CX0 1 T.a_Meter___init__ T.d_Meter___init__ ["self"] (ip_Meter___init__ K T.C_Meter) := by
  refine T.p_Meter___init__.F.ok sc_Meter___init__ (fun vs H Q E h => ?_) (fun cdv A outer s H vs Q E hr h => ?_)
  · obtain ⟨p, dx, B, rfl, c, q⟩ := un_Meter___init__ h
    rfl
  · obtain ⟨p, dx, B, rfl, c, q⟩ := un_Meter___init__ h
    refine ⟨_, (pss_cons (ps_fldM (pv 0) pe_dnewT T.k_Meter.cl T.f_Meter__sums) (pss_cons (ps_fldM (pv 0) pe_non T.k_Meter.cl T.f_Meter__last) (pss_cons (ps_fldM (pv 0) pe_int T.k_Meter.cl T.f_Meter__answered) (pss_one (ps_fldM (pv 0) pe_bl T.k_Meter.cl T.f_Meter__has_more))))), ?_⟩
    have w0 : Own H B [p] B [(p, .ins T.C_Meter dx [])] H := c.start
    (repeat walk_at "rd")
    intro d1 hd1
    have w1 := w0.add hd1 (same_upd (o := .dT []) hd1) upd_same
    (repeat walk_at "rd")
    refine rd_putF (by walk_at "hp") (by exact Nat.le_of_ble_eq_true rfl) rfl ?_
    have w2 : Own H B [p] B [(d1, .dT []), (p, .ins T.C_Meter dx [("_sums", .ref d1)])] _ := w1.set 1 rfl (.ins T.C_Meter dx [("_sums", .ref d1)])
    (repeat walk_at "rd")
    refine rd_putF (by walk_at "hp") (by exact Nat.le_of_ble_eq_true rfl) rfl ?_
    have w3 : Own H B [p] B [(d1, .dT []), (p, .ins T.C_Meter dx [("_sums", .ref d1), ("_last", .non)])] _ := w2.set 1 rfl (.ins T.C_Meter dx [("_sums", .ref d1), ("_last", .non)])
    (repeat walk_at "rd")
    refine rd_putF (by walk_at "hp") (by exact Nat.le_of_ble_eq_true rfl) rfl ?_
    have w4 : Own H B [p] B [(d1, .dT []), (p, .ins T.C_Meter dx [("_sums", .ref d1), ("_last", .non), ("_answered", .int 0)])] _ := w3.set 1 rfl (.ins T.C_Meter dx [("_sums", .ref d1), ("_last", .non), ("_answered", .int 0)])
    (repeat walk_at "rd")
    refine rd_putF (by walk_at "hp") (by exact Nat.le_of_ble_eq_true rfl) rfl ?_
    have w5 : Own H B [p] B [(d1, .dT []), (p, .ins T.C_Meter dx [("_sums", .ref d1), ("_last", .non), ("_answered", .int 0), ("_has_more", .bl false)])] _ := w4.set 1 rfl (.ins T.C_Meter dx [("_sums", .ref d1), ("_last", .non), ("_answered", .int 0), ("_has_more", .bl false)])
    exact q ⟨p, dx, d1⟩ _ rfl (w5.perm (List.Perm.swap _ _ _))
def sp_Meter_metered (K : PySem.W.Frag) (C : Addr) : Sp := fun vs H Q _ => ∃ (A : MtA) (s : MtS) (b w : Int), vs = [.ref A.p, .int b, .int w] ∧ H A.p = some (.ins C A.dx (s.fs A)) ∧ H A.sd = some (.dT (s.E.map kvT)) ∧ ∀ H', Same H H' → Q (.int ((tget s.E (b, w)).getD 0)) H'
@[irreducible] def ip_Meter_metered (K : PySem.W.Frag) (C : Addr) : Sp := sp_Meter_metered K C
theorem op_Meter_metered {K : PySem.W.Frag} {C : Addr} {vs : List V} {H : Hp} {Q : VK} {E : XK} (h : sp_Meter_metered K C vs H Q E) : ip_Meter_metered K C vs H Q E := by
  unfold ip_Meter_metered
  exact h
theorem un_Meter_metered {K : PySem.W.Frag} {C : Addr} {vs : List V} {H : Hp} {Q : VK} {E : XK} (h : ip_Meter_metered K C vs H Q E) : sp_Meter_metered K C vs H Q E := by
  unfold ip_Meter_metered at h
  exact h
theorem ok_Meter_metered (T : Tx P w K mg base) : FnOk P w K mg base CX0 1 T.a_Meter_metered T.d_Meter_metered ["self", "bearer", "way"] (ip_Meter_metered K T.C_Meter) := by
  refine T.p_Meter_metered.F.ok sc_Meter_metered (fun vs H Q E h => ?_) (fun cdv A outer s H vs Q E hr h => ?_)
  · obtain ⟨A, s', b, w, rfl, hA, hD, q⟩ := un_Meter_metered h
    rfl
  · obtain ⟨A, s', b, w, rfl, hA, hD, q⟩ := un_Meter_metered h
    refine ⟨_, (pss_one (ps_ret (pe_dget2TM (hu_of hr) (pe_fldM (pv 0) T.k_Meter.cl T.f_Meter__sums) (pe_tupM (pa_cons (pv 1) (pa_cons (pv 2) pa_nil))) pe_int))), ?_⟩
    (repeat walk_at "rd")
    refine rd_isDT (.inl hD) ?_
    (repeat walk_at "rd")
    intro t H1 n1 s1 e1
    refine rd_dget2T (p := (b, w)) (.inl (s1 _ _ hD)) e1 ?_
    exact q _ s1
def sp_Meter__last_serial (K : PySem.W.Frag) (C : Addr) : Sp := fun vs H Q _ => ∃ (A : MtA) (s : MtS), vs = [.ref A.p] ∧ H A.p = some (.ins C A.dx (s.fs A)) ∧ LastAt H s.lv s.n ∧ Q (.int s.n) H
@[irreducible] def ip_Meter__last_serial (K : PySem.W.Frag) (C : Addr) : Sp := sp_Meter__last_serial K C
theorem op_Meter__last_serial {K : PySem.W.Frag} {C : Addr} {vs : List V} {H : Hp} {Q : VK} {E : XK} (h : sp_Meter__last_serial K C vs H Q E) : ip_Meter__last_serial K C vs H Q E := by
  unfold ip_Meter__last_serial
  exact h
theorem un_Meter__last_serial {K : PySem.W.Frag} {C : Addr} {vs : List V} {H : Hp} {Q : VK} {E : XK} (h : ip_Meter__last_serial K C vs H Q E) : sp_Meter__last_serial K C vs H Q E := by
  unfold ip_Meter__last_serial at h
  exact h
theorem ok_Meter__last_serial (T : Tx P w K mg base) : FnOk P w K mg base CX0 1 T.a_Meter__last_serial T.d_Meter__last_serial ["self"] (ip_Meter__last_serial K T.C_Meter) := by
  refine T.p_Meter__last_serial.F.ok sc_Meter__last_serial (fun vs H Q E h => ?_) (fun cdv A outer s H vs Q E hr h => ?_)
  · obtain ⟨A, s', rfl, hA, hL, q⟩ := un_Meter__last_serial h
    rfl
  · obtain ⟨A, s', rfl, hA, hL, q⟩ := un_Meter__last_serial h
    refine ⟨_, (pss_one (ps_ret (pe_ifM (pt_cmpR op_isN (pe_fldM (pv 0) T.k_Meter.cl T.f_Meter__last) pe_non (nomark _)) pe_int (pe_ix ix_tupM (pe_fldM (pv 0) T.k_Meter.cl T.f_Meter__last) pe_int (fun _ _ => rfl))))), ?_⟩
    (repeat walk_at "rd")
    rcases hL with ⟨e, en⟩ | ⟨l, rt, e, hl⟩
    · rw [e]
      (repeat walk_at "rd")
      rw [← en]
      exact q
    · rw [e]
      (repeat walk_at "rd")
      rw [e]
      refine rd_ixT (st_of hl) rfl ?_
      exact q
def mas (A : MtA) : List Addr := [A.p, A.sd]
def sp_Meter_add (K : PySem.W.Frag) (C : Addr) : Sp := fun vs H Q _ => ∃ (A : MtA) (s : MtS) (b w size : Int) (B : Hp), vs = [.ref A.p, .int b, .int w, .int size] ∧ Cells H B (mcells C A s) ∧ 0 < size ∧ s.E.length < 1000 ∧ ∀ B' H', Own H B (mas A) B' (mcells C A { s with E := tput s.E (b, w) ((tget s.E (b, w)).getD 0 + size), more := true }) H' → Q .non H'
@[irreducible] def ip_Meter_add (K : PySem.W.Frag) (C : Addr) : Sp := sp_Meter_add K C
theorem op_Meter_add {K : PySem.W.Frag} {C : Addr} {vs : List V} {H : Hp} {Q : VK} {E : XK} (h : sp_Meter_add K C vs H Q E) : ip_Meter_add K C vs H Q E := by
  unfold ip_Meter_add
  exact h
theorem un_Meter_add {K : PySem.W.Frag} {C : Addr} {vs : List V} {H : Hp} {Q : VK} {E : XK} (h : ip_Meter_add K C vs H Q E) : sp_Meter_add K C vs H Q E := by
  unfold ip_Meter_add at h
  exact h
theorem ok_Meter_add (T : Tx P w K mg base) : FnOk P w K mg base CX0 2 T.a_Meter_add T.d_Meter_add ["self", "bearer", "way", "size"] (ip_Meter_add K T.C_Meter) := by
  have G_Meter_metered := ok_Meter_metered T
  refine T.p_Meter_add.F.ok sc_Meter_add (fun vs H Q E h => ?_) (fun cdv A outer s H vs Q E hr h => ?_)
  · obtain ⟨A, s', b, w, size, B, rfl, c, hz, hl, q⟩ := un_Meter_add h
    rfl
  · obtain ⟨A, s', b, w, size, B, rfl, c, hz, hl, q⟩ := un_Meter_add h
    refine ⟨_, (pss_one (ps_ifM (pt_cmpR op_gtM (pv 3) pe_int (nomark _)) (pss_cons (ps_dputTM (hu_of hr) (pe_fldM (pv 0) T.k_Meter.cl T.f_Meter__sums) (pe_tupM (pa_cons (pv 1) (pa_cons (pv 2) pa_nil))) (pe_op op_addM (meth_weak (pe_meth (pe_c (pv 0)) T.k_Meter.cl T.p_Meter_metered.me G_Meter_metered (hr.mono (by decide)) T.p_Meter_metered.b .nil pass0 (pa_cons (pv 1) (pa_cons (pv 2) pa_nil)))) (pv 3))) (pss_one (ps_fldM (pv 0) pe_bl T.k_Meter.cl T.f_Meter__has_more))) pss_nil)), ?_⟩
    have w0 : Own H B (mas A) B (mcells T.C_Meter A s') H := c.start
    have hA := w0.mem (.head _)
    have hD := w0.mem (.tail _ (.head _))
    (repeat walk_at "rd")
    refine br_t hz ?_
    (repeat walk_at "rd")
    refine op_Meter_metered ⟨A, s', b, w, rfl, hA, hD, fun H1 s1 => ?_⟩
    have w1 := w0.more s1
    have hA1 := w1.mem (.head _)
    have hD1 := w1.mem (.tail _ (.head _))
    (repeat walk_at "rd")
    intro t H2 n2 s2 e2
    have w2 := w1.more s2
    refine rd_dputT (p := (b, w)) (w2.mem (.tail _ (.head _))) e2 (by omega) ?_
    have w3 := w2.set 1 rfl (.dT ((tput s'.E (b, w) ((tget s'.E (b, w)).getD 0 + size)).map kvT))
    have hA3 := w3.mem (.head _)
    (repeat walk_at "rd")
    refine rd_putF (by walk_at "hp") (by exact Nat.le_of_ble_eq_true rfl) rfl ?_
    exact q B _ (w3.set 0 rfl (.ins T.C_Meter A.dx (({ s' with E := tput s'.E (b, w) ((tget s'.E (b, w)).getD 0 + size), more := true } : MtS).fs A)))
def sp_Meter_write (K : PySem.W.Frag) (C : Addr) : Sp := fun vs H Q _ => ∃ (A : MtA) (s : MtS) (B : Hp), vs = [.ref A.p] ∧ Cells H B (mcells C A s) ∧ LastAt B s.lv s.n ∧ (s.E.map Prod.fst).Nodup ∧ s.E.length ≤ 900 ∧
  ∀ (B' H' : Hp) (l : Addr) (R : List PK), Own H B (mas A) B' (mcells C A { s with lv := .ref l, n := s.n + 1, more := false }) H' → LtAt B' l (s.n + 1) R → RowsOf s.E R → Q (.ref l) H'
theorem tget_mem {E : List PK} {p : Int × Int} (h : p ∈ E.map Prod.fst) : ∃ v, tget E p = some v := by
  unfold tget
  cases e : E.find? fun e => decide (e.1 = p) with
  | some x => exact ⟨_, rfl⟩
  | none =>
    obtain ⟨x, hx, ex⟩ := List.mem_map.mp h
    exact absurd (decide_eq_true ex) (List.find?_eq_none.mp e x hx)
def rowsE (E : List PK) (ps : List (Int × Int)) : List PK := ps.map fun p => (p, (tget E p).getD 0)
theorem rowsE_of {E : List PK} {ps : List (Int × Int)} (pm : ps.Perm (E.map Prod.fst)) (asc : ps.Pairwise leP) : RowsOf E (rowsE E ps) := by
  have e : (rowsE E ps).map Prod.fst = ps := by
    unfold rowsE
    rw [List.map_map]
    exact List.map_id _
  refine ⟨by rw [e]; exact pm, by rw [e]; exact asc, fun x hx => ?_⟩
  obtain ⟨p, hp, rfl⟩ := List.mem_map.mp hx
  obtain ⟨v, hv⟩ := tget_mem (pm.mem_iff.mp hp)
  rw [hv]
  rfl
@[irreducible] def ip_Meter_write (K : PySem.W.Frag) (C : Addr) : Sp := sp_Meter_write K C
theorem op_Meter_write {K : PySem.W.Frag} {C : Addr} {vs : List V} {H : Hp} {Q : VK} {E : XK} (h : sp_Meter_write K C vs H Q E) : ip_Meter_write K C vs H Q E := by
  unfold ip_Meter_write
  exact h
theorem un_Meter_write {K : PySem.W.Frag} {C : Addr} {vs : List V} {H : Hp} {Q : VK} {E : XK} (h : ip_Meter_write K C vs H Q E) : sp_Meter_write K C vs H Q E := by
  unfold ip_Meter_write at h
  exact h
theorem ok_Meter_write (T : Tx P w K mg base) : FnOk P w K mg base CX0 2 T.a_Meter_write T.d_Meter_write ["self"] (ip_Meter_write K T.C_Meter) := by
  have G_Meter__last_serial := ok_Meter__last_serial T
  refine T.p_Meter_write.F.ok sc_Meter_write (fun vs H Q E h => ?_) (fun cdv A outer s H vs Q E hr h => ?_)
  · obtain ⟨A, s', B, rfl, c, hL, hnd, hl, q⟩ := un_Meter_write h
    rfl
  · obtain ⟨A, s', B, rfl, c, hL, hnd, hl, q⟩ := un_Meter_write h
    refine ⟨_, (pss_cons (ps_set (i := 1) sc_Meter_write.nd rfl (Or.inl rfl) (pe_callTy call_tupOfM (by rfl) T.n_tuple (by decide +kernel) (pa_cons (pe_lcW (own := [("bearer", 2), ("way", 3)]) (g := (gTup K 2 (gCons (gName 2) (gCons (gName 3) gNil)))) [2, 3] im_list rfl sc_Meter_write.nd (pi_list (pe_c (pe_callB (call_sortDTM rfl) (by rfl) T.n_sorted (by decide +kernel) (pa_cons (pe_fldM (pv 0) T.k_Meter.cl T.f_Meter__sums) pa_nil)))) (blkOk_by (own := [("bearer", 2), ("way", 3)]) (N := ["self", "sums", "bearer", "way"]) (sc := defScope S_Meter_write) (by decide +kernel)) (fun _ _ _ _ _ => (pg_tup rfl (pgs_cons (pg_name (i := 2) sc_Meter_write.nd rfl (Or.inl rfl)) (pgs_cons (pg_name (i := 3) sc_Meter_write.nd rfl (Or.inl rfl)) pgs_nil)))) (fun _ _ _ _ _ => pts_nil) (fun _ _ _ _ _ => (pe_tupM (pa_cons (pv 2) (pa_cons (pv 3) (pa_cons (pe_dgetTM (hu_of hr) (pe_fldM (pv 0) T.k_Meter.cl T.f_Meter__sums) (pe_tupM (pa_cons (pv 2) (pa_cons (pv 3) pa_nil)))) pa_nil)))))) pa_nil))) (pss_cons (ps_fldM (pv 0) (pe_tupM (pa_cons (pe_op op_addM (meth_weak (pe_meth0 (pe_c (pv 0)) T.k_Meter.cl T.p_Meter__last_serial.me G_Meter__last_serial (hr.mono (by decide)) T.p_Meter__last_serial.b .nil pass0)) pe_int) (pa_cons (pv 1) pa_nil))) T.k_Meter.cl T.f_Meter__last) (pss_cons (ps_fldM (pv 0) pe_bl T.k_Meter.cl T.f_Meter__has_more) (pss_one (ps_ret (pe_fldM (pv 0) T.k_Meter.cl T.f_Meter__last)))))), ?_⟩
    have w0 : Own H B (mas A) B (mcells T.C_Meter A s') H := c.start
    have hA := w0.mem (.head _)
    have hD := w0.mem (.tail _ (.head _))
    (repeat walk_at "rd")
    refine rd_lcW ?_
    (repeat walk_at "rd")
    refine rd_sortDT (.inl hD) fun bs ps hps pm asc => ?_
    intro p1 H1 n1 s1 e1
    have hlen : bs.length ≤ 1000 := by
      rw [hps.ln, pm.length_eq, List.length_map]
      omega
    have w1 := w0.more s1
    (repeat walk_at "rd")
    refine ⟨⟨_, sq_of e1⟩, ?_⟩
    refine wl_tupsG _ (fun i => [.int (ps.getD i (0, 0)).1, .int (ps.getD i (0, 0)).2, .int ((tget s'.E (ps.getD i (0, 0))).getD 0)]) (sq_of e1) (by rw [List.length_map]; omega) (fun i y hi H' R BB sH' k => ?_) (fun D ts H' nD nt => ?_)
    · rw [List.getElem?_map] at hi
      obtain ⟨b, hb, rfl⟩ := Option.map_eq_some_iff.mp hi
      have hil := (List.getElem?_eq_some_iff.mp hb).1
      rw [hps.ln] at hil
      have hp : ps[i]? = some (ps.getD i (0, 0)) := by
        rw [List.getD_eq_getElem?_getD, List.getElem?_eq_getElem hil]
        rfl
      have hbv := hps.at' i b _ hb hp
      obtain ⟨v, hv⟩ := tget_mem (pm.mem_iff.mp (List.mem_of_getElem? hp))
      have s1H := s1.trans sH'
      refine ⟨b, _, rfl, st_of (s1H _ _ hbv), rfl, _, _, rfl, _, _, rfl, rfl, ?_⟩
      refine ⟨rfl, ?_⟩
      have hA' := s1H _ _ hA
      (repeat walk_at "rd")
      intro t2 H2 n2 s2 e2
      refine rd_dgetT (p := ps.getD i (0, 0)) (v := v) (.inl (s2 _ _ (s1H _ _ hD))) e2 hv ?_
      (repeat walk_at "rd")
      intro t3 H3 n3 s3 e3
      refine k t3 H3 (same_none s2 n3) (s2.trans s3) ?_
      show H3 t3 = some (.tup [.int (ps.getD i (0, 0)).1, .int (ps.getD i (0, 0)).2, .int ((tget s'.E (ps.getD i (0, 0))).getD 0)])
      rw [hv]
      exact e3
    obtain ⟨B2, sB2, hB2, tl, w2⟩ := w1.nt nD nt
    refine rd_tupOf (sq_of (w2.imm _ _ hB2)) fun rt H3 n3 s3 e3 => ?_
    obtain ⟨B3, sB3, hB3, _, w3⟩ := w2.ro n3 s3 e3
    have hrt : RtAt B3 rt (rowsE s'.E ps) := by
      have hln := tl.len
      rw [List.length_map, List.length_range, List.length_map, hps.ln] at hln
      refine ⟨ts, hB3, by unfold rowsE; rw [List.length_map]; exact hln, fun i t e e1 e2 => ?_⟩
      obtain ⟨x, hx, ht⟩ := (tl.mono sB3).at e1
      have hi := (List.getElem?_eq_some_iff.mp e1).1
      rw [List.getElem?_map, List.getElem?_range (by rw [List.length_map, hps.ln]; omega)] at hx
      cases hx
      unfold rowsE at e2
      rw [List.getElem?_map, List.getElem?_eq_getElem (by omega)] at e2
      cases e2
      have hil : i < ps.length := by omega
      have eg : ps.getD i (0, 0) = ps[i] := by
        rw [List.getD_eq_getElem?_getD, List.getElem?_eq_getElem hil]
        rfl
      rw [ht]
      show some (HO.tup [.int (ps.getD i (0, 0)).1, .int (ps.getD i (0, 0)).2, .int ((tget s'.E (ps.getD i (0, 0))).getD 0)]) = _
      rw [eg]
    have hA3 := w3.mem (.head _)
    (repeat walk_at "rd")
    refine op_Meter__last_serial ⟨A, s', rfl, hA3, ((hL.mono (sB2.trans sB3)).mono w3.imm), ?_⟩
    (repeat walk_at "rd")
    intro l H4 n4 s4 e4
    obtain ⟨B4, sB4, hB4, _, w4⟩ := w3.ro n4 s4 e4
    have hA4 := w4.mem (.head _)
    (repeat walk_at "rd")
    refine rd_putF (by walk_at "hp") (by exact Nat.le_of_ble_eq_true rfl) rfl ?_
    have w5 := w4.set 0 rfl (.ins T.C_Meter A.dx (({ s' with lv := .ref l, n := s'.n + 1 } : MtS).fs A))
    have hA5 := w5.mem (.head _)
    (repeat walk_at "rd")
    refine rd_putF (by walk_at "hp") (by exact Nat.le_of_ble_eq_true rfl) rfl ?_
    have w6 := w5.set 0 rfl (.ins T.C_Meter A.dx (({ s' with lv := .ref l, n := s'.n + 1, more := false } : MtS).fs A))
    have hA6 := w6.mem (.head _)
    (repeat walk_at "rd")
    exact q B4 _ l (rowsE s'.E ps) w6 ⟨rt, hB4, hrt.mono sB4⟩ (rowsE_of pm asc)
def sp_Meter_last (K : PySem.W.Frag) (C : Addr) : Sp := fun vs H Q _ => ∃ (A : MtA) (s : MtS), vs = [.ref A.p] ∧ H A.p = some (.ins C A.dx (s.fs A)) ∧ Q s.lv H
@[irreducible] def ip_Meter_last (K : PySem.W.Frag) (C : Addr) : Sp := sp_Meter_last K C
theorem op_Meter_last {K : PySem.W.Frag} {C : Addr} {vs : List V} {H : Hp} {Q : VK} {E : XK} (h : sp_Meter_last K C vs H Q E) : ip_Meter_last K C vs H Q E := by
  unfold ip_Meter_last
  exact h
theorem un_Meter_last {K : PySem.W.Frag} {C : Addr} {vs : List V} {H : Hp} {Q : VK} {E : XK} (h : ip_Meter_last K C vs H Q E) : sp_Meter_last K C vs H Q E := by
  unfold ip_Meter_last at h
  exact h
theorem ok_Meter_last (T : Tx P w K mg base) : FnOk P w K mg base CX0 1 T.a_Meter_last T.d_Meter_last ["self"] (ip_Meter_last K T.C_Meter) := by
  refine T.p_Meter_last.F.ok sc_Meter_last (fun vs H Q E h => ?_) (fun cdv A outer s H vs Q E hr h => ?_)
  · obtain ⟨A, s', rfl, hA, q⟩ := un_Meter_last h
    rfl
  · obtain ⟨A, s', rfl, hA, q⟩ := un_Meter_last h
    refine ⟨_, (pss_one (ps_ret (pe_fldM (pv 0) T.k_Meter.cl T.f_Meter__last))), ?_⟩
    (repeat walk_at "rd")
    exact q
def sp_Meter_take (K : PySem.W.Frag) (C : Addr) : Sp := fun vs H Q _ => ∃ (A : MtA) (s : MtS) (m : Int) (B : Hp), vs = [.ref A.p, .int m] ∧ Cells H B (mcells C A s) ∧ ∀ H', Own H B (mas A) B (mcells C A { s with ans := max s.ans m }) H' → Q .non H'
@[irreducible] def ip_Meter_take (K : PySem.W.Frag) (C : Addr) : Sp := sp_Meter_take K C
theorem op_Meter_take {K : PySem.W.Frag} {C : Addr} {vs : List V} {H : Hp} {Q : VK} {E : XK} (h : sp_Meter_take K C vs H Q E) : ip_Meter_take K C vs H Q E := by
  unfold ip_Meter_take
  exact h
theorem un_Meter_take {K : PySem.W.Frag} {C : Addr} {vs : List V} {H : Hp} {Q : VK} {E : XK} (h : ip_Meter_take K C vs H Q E) : sp_Meter_take K C vs H Q E := by
  unfold ip_Meter_take at h
  exact h
theorem ok_Meter_take (T : Tx P w K mg base) : FnOk P w K mg base CX0 1 T.a_Meter_take T.d_Meter_take ["self", "serial"] (ip_Meter_take K T.C_Meter) := by
  refine T.p_Meter_take.F.ok sc_Meter_take (fun vs H Q E h => ?_) (fun cdv A outer s H vs Q E hr h => ?_)
  · obtain ⟨A, s', m, B, rfl, c, q⟩ := un_Meter_take h
    rfl
  · obtain ⟨A, s', m, B, rfl, c, q⟩ := un_Meter_take h
    refine ⟨_, (pss_one (ps_fldM (pv 0) (pe_callB (call_max2 rfl) (by rfl) T.n_max (by decide +kernel) (pa_cons (pe_fldM (pv 0) T.k_Meter.cl T.f_Meter__answered) (pa_cons (pv 1) pa_nil))) T.k_Meter.cl T.f_Meter__answered)), ?_⟩
    have w0 : Own H B (mas A) B (mcells T.C_Meter A s') H := c.start
    have hA := w0.mem (.head _)
    (repeat walk_at "rd")
    refine ⟨_, _, rfl, ?_⟩
    have em : (if m > s'.ans then m else s'.ans) = max s'.ans m := by
      split <;> omega
    rw [em]
    (repeat walk_at "rd")
    refine rd_putF (by walk_at "hp") (by exact Nat.le_of_ble_eq_true rfl) rfl ?_
    exact q _ (w0.set 0 rfl (.ins T.C_Meter A.dx (({ s' with ans := max s'.ans m } : MtS).fs A)))
def sp_Meter_is_settled (K : PySem.W.Frag) (C : Addr) : Sp := fun vs H Q _ => ∃ (A : MtA) (s : MtS), vs = [.ref A.p] ∧ H A.p = some (.ins C A.dx (s.fs A)) ∧ LastAt H s.lv s.n ∧ Q (.bl (decide (s.ans = s.n) && !s.more)) H
@[irreducible] def ip_Meter_is_settled (K : PySem.W.Frag) (C : Addr) : Sp := sp_Meter_is_settled K C
theorem op_Meter_is_settled {K : PySem.W.Frag} {C : Addr} {vs : List V} {H : Hp} {Q : VK} {E : XK} (h : sp_Meter_is_settled K C vs H Q E) : ip_Meter_is_settled K C vs H Q E := by
  unfold ip_Meter_is_settled
  exact h
theorem un_Meter_is_settled {K : PySem.W.Frag} {C : Addr} {vs : List V} {H : Hp} {Q : VK} {E : XK} (h : ip_Meter_is_settled K C vs H Q E) : sp_Meter_is_settled K C vs H Q E := by
  unfold ip_Meter_is_settled at h
  exact h
theorem ok_Meter_is_settled (T : Tx P w K mg base) : FnOk P w K mg base CX0 2 T.a_Meter_is_settled T.d_Meter_is_settled ["self"] (ip_Meter_is_settled K T.C_Meter) := by
  have G_Meter__last_serial := ok_Meter__last_serial T
  refine T.p_Meter_is_settled.F.ok sc_Meter_is_settled (fun vs H Q E h => ?_) (fun cdv A outer s H vs Q E hr h => ?_)
  · obtain ⟨A, s', rfl, hA, hL, q⟩ := un_Meter_is_settled h
    rfl
  · obtain ⟨A, s', rfl, hA, hL, q⟩ := un_Meter_is_settled h
    refine ⟨_, (pss_one (ps_ret (pe_andM (pe_cmpR op_eq (pe_fldM (pv 0) T.k_Meter.cl T.f_Meter__answered) (meth_weak (pe_meth0 (pe_c (pv 0)) T.k_Meter.cl T.p_Meter__last_serial.me G_Meter__last_serial (hr.mono (by decide)) T.p_Meter__last_serial.b .nil pass0)) (nomark _)) (pe_one (pe_not (pe_fldM (pv 0) T.k_Meter.cl T.f_Meter__has_more)))))), ?_⟩
    (repeat walk_at "rd")
    refine op_Meter__last_serial ⟨A, s', rfl, hA, hL, ?_⟩
    (repeat walk_at "rd")
    refine br_eby (fun h => ?_) (fun h => ?_)
    · rw [decide_eq_true h, Bool.true_and] at q
      (repeat walk_at "rd")
      exact q
    · rw [decide_eq_false h, Bool.false_and] at q
      exact q
end
structure BlA where
  p : Addr
  dx : Addr
structure BlS where
  sr : Int
  bd : Addr
  R : List PK
def BlS.fs (s : BlS) : List (Str × V) := [("_serial", .int s.sr), ("_bills", .ref s.bd)]
def bcells (C : Addr) (A : BlA) (s : BlS) : List (Addr × HO) := [(A.p, .ins C A.dx s.fs)]
section
variable {P : Program} {w : World} {K : PySem.W.Frag} {mg : Str → Option Value} {base : Heap}
def sp_Biller___init__ (K : PySem.W.Frag) (C : Addr) : Sp := fun vs H Q _ => ∃ (p dx : Addr) (B : Hp), vs = [.ref p] ∧ Cells H B [(p, .ins C dx [])] ∧ ∀ (A : BlA) (B' H' : Hp) (bd : Addr), A.p = p → Own H B [p] B' (bcells C A ⟨0, bd, []⟩) H' → B' bd = some (.dT []) → Q .non H'
@[irreducible] def ip_Biller___init__ (K : PySem.W.Frag) (C : Addr) : Sp := sp_Biller___init__ K C
theorem op_Biller___init__ {K : PySem.W.Frag} {C : Addr} {vs : List V} {H : Hp} {Q : VK} {E : XK} (h : sp_Biller___init__ K C vs H Q E) : ip_Biller___init__ K C vs H Q E := by
  unfold ip_Biller___init__
  exact h
theorem un_Biller___init__ {K : PySem.W.Frag} {C : Addr} {vs : List V} {H : Hp} {Q : VK} {E : XK} (h : ip_Biller___init__ K C vs H Q E) : sp_Biller___init__ K C vs H Q E := by
  unfold ip_Biller___init__ at h
  exact h
theorem ok_Biller___init__ (T : Tx P w K mg base) : FnOk P w K mg base CX0 1 T.a_Biller___init__ T.d_Biller___init__ ["self"] (ip_Biller___init__ K T.C_Biller) := by
  refine T.p_Biller___init__.F.ok sc_Biller___init__ (fun vs H Q E h => ?_) (fun cdv A outer s H vs Q E hr h => ?_)
  · obtain ⟨p, dx, B, rfl, c, q⟩ := un_Biller___init__ h
    rfl
  · obtain ⟨p, dx, B, rfl, c, q⟩ := un_Biller___init__ h
    refine ⟨_, (pss_cons (ps_fldM (pv 0) pe_int T.k_Biller.cl T.f_Biller__serial) (pss_one (ps_fldM (pv 0) pe_dnewT T.k_Biller.cl T.f_Biller__bills))), ?_⟩
    have w0 : Own H B [p] B [(p, .ins T.C_Biller dx [])] H := c.start
    (repeat walk_at "rd")
    refine rd_putF (by walk_at "hp") (by exact Nat.le_of_ble_eq_true rfl) rfl ?_
    have w1 : Own H B [p] B [(p, .ins T.C_Biller dx [("_serial", .int 0)])] _ := w0.set 0 rfl (.ins T.C_Biller dx [("_serial", .int 0)])
    (repeat walk_at "rd")
    intro d1 hd1
    obtain ⟨B2, sB2, hB2, _, w2⟩ := w1.ro hd1 (same_upd (o := .dT []) hd1) upd_same
    have hp2 := w2.mem (.head _)
    (repeat walk_at "rd")
    refine rd_putF (by walk_at "hp") (by exact Nat.le_of_ble_eq_true rfl) rfl ?_
    have w3 : Own H B [p] B2 [(p, .ins T.C_Biller dx [("_serial", .int 0), ("_bills", .ref d1)])] _ := w2.set 0 rfl (.ins T.C_Biller dx [("_serial", .int 0), ("_bills", .ref d1)])
    exact q ⟨p, dx⟩ B2 _ d1 rfl w3 hB2
def sp_Biller_take (K : PySem.W.Frag) (C : Addr) : Sp := fun vs H Q _ => ∃ (A : BlA) (s : BlS) (l : Addr) (n : Int) (R : List PK) (B : Hp), vs = [.ref A.p, .ref l] ∧ Cells H B (bcells C A s) ∧ LtAt B l n R ∧ (R.map Prod.fst).Nodup ∧ R.length ≤ 1000 ∧
  (n ≤ s.sr → ∀ H', Own H B [A.p] B (bcells C A s) H' → Q (.int s.sr) H') ∧
  (s.sr < n → ∀ (B' H' : Hp) (bd : Addr), Own H B [A.p] B' (bcells C A ⟨n, bd, R⟩) H' → B' bd = some (.dT (R.map kvT)) → Q (.int n) H')
@[irreducible] def ip_Biller_take (K : PySem.W.Frag) (C : Addr) : Sp := sp_Biller_take K C
theorem op_Biller_take {K : PySem.W.Frag} {C : Addr} {vs : List V} {H : Hp} {Q : VK} {E : XK} (h : sp_Biller_take K C vs H Q E) : ip_Biller_take K C vs H Q E := by
  unfold ip_Biller_take
  exact h
theorem un_Biller_take {K : PySem.W.Frag} {C : Addr} {vs : List V} {H : Hp} {Q : VK} {E : XK} (h : ip_Biller_take K C vs H Q E) : sp_Biller_take K C vs H Q E := by
  unfold ip_Biller_take at h
  exact h
theorem ok_Biller_take (T : Tx P w K mg base) : FnOk P w K mg base CX0 1 T.a_Biller_take T.d_Biller_take ["self", "letter"] (ip_Biller_take K T.C_Biller) := by
  refine T.p_Biller_take.F.ok sc_Biller_take (fun vs H Q E h => ?_) (fun cdv A outer s H vs Q E hr h => ?_)
  · obtain ⟨A, s', l, n, R, B, rfl, c, hl, nd, hR, q⟩ := un_Biller_take h
    rfl
  · obtain ⟨A, s', l, n, R, B, rfl, c, hl, nd, hR, q⟩ := un_Biller_take h
    refine ⟨_, (pss_cons (ps_asg (pv 1) (pg_tup rfl (pgs_cons (pg_name (i := 2) sc_Biller_take.nd rfl (Or.inl rfl)) (pgs_cons (pg_name (i := 3) sc_Biller_take.nd rfl (Or.inl rfl)) pgs_nil)))) (pss_cons (ps_ifM (pt_cmpR op_gtM (pv 2) (pe_fldM (pv 0) T.k_Biller.cl T.f_Biller__serial) (nomark _)) (pss_cons (ps_fldM (pv 0) (pv 2) T.k_Biller.cl T.f_Biller__serial) (pss_one (ps_fldM (pv 0) (pe_dcW (own := [("bearer", 4), ("way", 5), ("size", 6)]) (g := (gTup K 3 (gCons (gName 4) (gCons (gName 5) (gCons (gName 6) gNil))))) [4, 5, 6] im_tup (hu1_of hr) rfl sc_Biller_take.nd (pi_tup (pe_c (pv 3))) (blkOk_by (own := [("bearer", 4), ("way", 5), ("size", 6)]) (N := ["self", "letter", "serial", "sums", "bearer", "way", "size"]) (sc := defScope S_Biller_take) (by decide +kernel)) (fun _ _ _ _ _ => (pg_tup rfl (pgs_cons (pg_name (i := 4) sc_Biller_take.nd rfl (Or.inl rfl)) (pgs_cons (pg_name (i := 5) sc_Biller_take.nd rfl (Or.inl rfl)) (pgs_cons (pg_name (i := 6) sc_Biller_take.nd rfl (Or.inl rfl)) pgs_nil))))) (fun _ _ _ _ _ => (pe_tupM (pa_cons (pv 4) (pa_cons (pv 5) pa_nil)))) (fun _ _ _ _ _ => (pv 6))) T.k_Biller.cl T.f_Biller__bills))) pss_nil) (pss_one (ps_ret (pe_fldM (pv 0) T.k_Biller.cl T.f_Biller__serial))))), ?_⟩
    have w0 : Own H B [A.p] B (bcells T.C_Biller A s') H := c.start
    obtain ⟨rt, h1, h2⟩ := hl.ex
    obtain ⟨ts, h3, h4, h5⟩ := h2.ex
    have hA := w0.mem (.head _)
    (repeat walk_at "rd")
    refine ⟨l, _, rfl, st_of (w0.imm _ _ h1), rfl, _, _, rfl, _, _, rfl, rfl, ?_⟩
    (repeat walk_at "rd")
    refine br_by (fun hlt => ?_) (fun hlt => ?_)
    · (repeat walk_at "rd")
      refine rd_putF (by walk_at "hp") (by exact Nat.le_of_ble_eq_true rfl) rfl ?_
      have w1 := w0.set 0 rfl (.ins T.C_Biller A.dx [("_serial", .int n), ("_bills", .ref s'.bd)])
      (repeat walk_at "rd")
      have h3' := w1.imm _ _ h3
      refine rd_dcW ?_
      (repeat walk_at "rd")
      refine ⟨⟨_, st_of h3'⟩, ?_⟩
      refine wd_tup R nd (by omega) (by rw [List.length_map]; exact h4) (st_of h3') (fun i x e H' Z hx he sH' k => ?_) (fun D H' nD sD eD => ?_)
      · rw [List.getElem?_map] at hx
        obtain ⟨t, ht, rfl⟩ := Option.map_eq_some_iff.mp hx
        have h6 := sH' _ _ (w1.imm _ _ (h5 i t e ht he))
        refine ⟨t, _, rfl, st_of h6, rfl, _, _, rfl, _, _, rfl, _, _, rfl, rfl, ?_⟩
        refine ⟨rfl, ?_⟩
        (repeat walk_at "rd")
        intro t2 H2 n2 s2 e2
        (repeat walk_at "rd")
        exact k t2 H2 s2 e2
      obtain ⟨B2, sB2, hB2, _, w2⟩ := w1.ro nD sD eD
      have hp2 := w2.mem (.head _)
      (repeat walk_at "rd")
      refine rd_putF (by walk_at "hp") (by exact Nat.le_of_ble_eq_true rfl) rfl ?_
      have w3 := w2.set 0 rfl (.ins T.C_Biller A.dx [("_serial", .int n), ("_bills", .ref D)])
      have hp3 := w3.mem (.head _)
      (repeat walk_at "rd")
      exact q.2 hlt B2 _ D w3 hB2
    · (repeat walk_at "rd")
      exact q.1 (by omega) H w0
def sp_Biller_bill (K : PySem.W.Frag) (C : Addr) : Sp := fun vs H Q _ => ∃ (A : BlA) (s : BlS) (b w : Int), vs = [.ref A.p, .int b, .int w] ∧ H A.p = some (.ins C A.dx s.fs) ∧ H s.bd = some (.dT (s.R.map kvT)) ∧ ∀ H', Same H H' → Q (.int ((tget s.R (b, w)).getD 0)) H'
@[irreducible] def ip_Biller_bill (K : PySem.W.Frag) (C : Addr) : Sp := sp_Biller_bill K C
theorem op_Biller_bill {K : PySem.W.Frag} {C : Addr} {vs : List V} {H : Hp} {Q : VK} {E : XK} (h : sp_Biller_bill K C vs H Q E) : ip_Biller_bill K C vs H Q E := by
  unfold ip_Biller_bill
  exact h
theorem un_Biller_bill {K : PySem.W.Frag} {C : Addr} {vs : List V} {H : Hp} {Q : VK} {E : XK} (h : ip_Biller_bill K C vs H Q E) : sp_Biller_bill K C vs H Q E := by
  unfold ip_Biller_bill at h
  exact h
theorem ok_Biller_bill (T : Tx P w K mg base) : FnOk P w K mg base CX0 1 T.a_Biller_bill T.d_Biller_bill ["self", "bearer", "way"] (ip_Biller_bill K T.C_Biller) := by
  refine T.p_Biller_bill.F.ok sc_Biller_bill (fun vs H Q E h => ?_) (fun cdv A outer s H vs Q E hr h => ?_)
  · obtain ⟨A, s', b, w, rfl, hA, hD, q⟩ := un_Biller_bill h
    rfl
  · obtain ⟨A, s', b, w, rfl, hA, hD, q⟩ := un_Biller_bill h
    refine ⟨_, (pss_one (ps_ret (pe_dget2TM (hu_of hr) (pe_fldM (pv 0) T.k_Biller.cl T.f_Biller__bills) (pe_tupM (pa_cons (pv 1) (pa_cons (pv 2) pa_nil))) pe_int))), ?_⟩
    (repeat walk_at "rd")
    refine rd_isDT (.inl hD) ?_
    (repeat walk_at "rd")
    intro t H1 n1 s1 e1
    refine rd_dget2T (p := (b, w)) (.inl (s1 _ _ hD)) e1 ?_
    exact q _ s1
def sp_u_law_rows (K : PySem.W.Frag) : Sp := fun vs H Q _ => ∃ (d : Addr) (E : List PK), vs = [.ref d] ∧ H d = some (.dT (E.map kvT)) ∧ E.length ≤ 900 ∧ ∀ (rt : Addr) (H' : Hp) (R : List PK), H rt = none → Same H H' → RtAt H' rt R → RowsOf E R → Q (.ref rt) H'
@[irreducible] def ip_u_law_rows (K : PySem.W.Frag) : Sp := sp_u_law_rows K
theorem op_u_law_rows {K : PySem.W.Frag} {vs : List V} {H : Hp} {Q : VK} {E : XK} (h : sp_u_law_rows K vs H Q E) : ip_u_law_rows K vs H Q E := by
  unfold ip_u_law_rows
  exact h
theorem un_u_law_rows {K : PySem.W.Frag} {vs : List V} {H : Hp} {Q : VK} {E : XK} (h : ip_u_law_rows K vs H Q E) : sp_u_law_rows K vs H Q E := by
  unfold ip_u_law_rows at h
  exact h
theorem ok_u_law_rows (T : Tx P w K mg base) : FnOk P w K mg base CX0 1 T.a_u_law_rows T.d_u_law_rows ["sums"] (ip_u_law_rows K) := by
  refine T.p_u_law_rows.F.ok sc_u_law_rows (fun vs H Q E h => ?_) (fun cdv A outer s H vs Q E hr h => ?_)
  · obtain ⟨d, E, rfl, hD, hl, q⟩ := un_u_law_rows h
    rfl
  · obtain ⟨d, E, rfl, hD, hl, q⟩ := un_u_law_rows h
    refine ⟨_, (pss_one (ps_ret (pe_callTy call_tupOfM (by rfl) T.n_tuple (by decide +kernel) (pa_cons (pe_lcW (own := [("name", 1)]) (g := (gName 1)) [1] im_list rfl sc_u_law_rows.nd (pi_list (pe_c (pe_callB call_sortLPM (by rfl) T.n_sorted (by decide +kernel) (pa_cons (pe_callTy (call_listDTM rfl) (by rfl) T.n_list (by decide +kernel) (pa_cons (pv 0) pa_nil)) pa_nil)))) (blkOk_by (own := [("name", 1)]) (N := ["sums", "name"]) (sc := defScope S_u_law_rows) (by decide +kernel)) (fun _ _ _ _ _ => (pg_name (i := 1) sc_u_law_rows.nd rfl (Or.inl rfl))) (fun _ _ _ _ _ => pts_nil) (fun _ _ _ _ _ => (pe_tupM (pa_cons (pe_ix (ix_tupK (K := K) rfl) (pv 1) pe_int (fun _ _ => rfl)) (pa_cons (pe_ix (ix_tupK (K := K) rfl) (pv 1) pe_int (fun _ _ => rfl)) (pa_cons (pe_dgetTM (hu_of hr) (pv 0) (pv 1)) pa_nil)))))) pa_nil)))), ?_⟩
    (repeat walk_at "rd")
    refine rd_lcW ?_
    (repeat walk_at "rd")
    refine rd_listDT (.inl hD) fun bs0 hps0 => ?_
    intro p0 H0 n0 s0 e0
    (repeat walk_at "rd")
    refine rd_sortLP (sq_of e0) (hps0.mono s0) fun bs ps hps pm asc => ?_
    intro p1 H1 n1 s1 e1
    have hlen : bs.length ≤ 1000 := by
      rw [hps.ln, pm.length_eq, List.length_map]
      omega
    have s01 := s0.trans s1
    (repeat walk_at "rd")
    refine ⟨⟨_, sq_of e1⟩, ?_⟩
    refine wl_tups _ (fun i => [.int (ps.getD i (0, 0)).1, .int (ps.getD i (0, 0)).2, .int ((tget E (ps.getD i (0, 0))).getD 0)]) (sq_of e1) (by rw [List.length_map]; omega) (fun i y hi H' R sH' k => ?_) (fun D ts H' nD nt => ?_)
    · rw [List.getElem?_map] at hi
      obtain ⟨b, hb, rfl⟩ := Option.map_eq_some_iff.mp hi
      have hil := (List.getElem?_eq_some_iff.mp hb).1
      rw [hps.ln] at hil
      have hp : ps[i]? = some (ps.getD i (0, 0)) := by
        rw [List.getD_eq_getElem?_getD, List.getElem?_eq_getElem hil]
        rfl
      have hbv := (s1.trans sH') _ _ (hps.at' i b _ hb hp)
      obtain ⟨v, hv⟩ := tget_mem (pm.mem_iff.mp (List.mem_of_getElem? hp))
      (repeat walk_at "rd")
      refine rd_ixT (st_of hbv) rfl ?_
      (repeat walk_at "rd")
      refine rd_ixT (st_of hbv) rfl ?_
      (repeat walk_at "rd")
      refine rd_dgetT (p := ps.getD i (0, 0)) (v := v) (.inl ((s01.trans sH') _ _ hD)) hbv hv ?_
      (repeat walk_at "rd")
      intro t3 H3 n3 s3 e3
      refine k t3 H3 n3 s3 ?_
      show H3 t3 = some (.tup [.int (ps.getD i (0, 0)).1, .int (ps.getD i (0, 0)).2, .int ((tget E (ps.getD i (0, 0))).getD 0)])
      rw [hv]
      exact e3
    refine rd_tupOf (sq_of nt.at') fun rt H3 n3 s3 e3 => ?_
    (repeat walk_at "rd")
    refine q rt H3 (rowsE E ps) (same_none (s01.trans nt.sm) n3) ((s01.trans nt.sm).trans s3) ?_ (rowsE_of pm asc)
    have hln := nt.ls.len
    rw [List.length_map, List.length_range, List.length_map, hps.ln] at hln
    refine ⟨ts, e3, by unfold rowsE; rw [List.length_map]; exact hln, fun i t e e1 e2 => ?_⟩
    obtain ⟨x, hx, ht⟩ := (nt.ls.mono s3).at e1
    have hi := (List.getElem?_eq_some_iff.mp e1).1
    rw [List.getElem?_map, List.getElem?_range (by rw [List.length_map, hps.ln]; omega)] at hx
    cases hx
    unfold rowsE at e2
    rw [List.getElem?_map, List.getElem?_eq_getElem (by omega)] at e2
    cases e2
    have hil : i < ps.length := by omega
    have eg : ps.getD i (0, 0) = ps[i] := by
      rw [List.getD_eq_getElem?_getD, List.getElem?_eq_getElem hil]
      rfl
    rw [ht]
    show some (HO.tup [.int (ps.getD i (0, 0)).1, .int (ps.getD i (0, 0)).2, .int ((tget E (ps.getD i (0, 0))).getD 0)]) = _
    rw [eg]
end
theorem tget_snoc (E : List PK) (e : PK) (p : Int × Int) : tget (E ++ [e]) p = (tget E p).or (if e.1 = p then some e.2 else none) := by
  unfold tget
  induction E with
  | nil =>
    rw [List.nil_append, List.find?_cons]
    by_cases h : e.1 = p
    · rw [decide_eq_true h, if_pos h]
      rfl
    · rw [decide_eq_false h, if_neg h]
      rfl
  | cons x r ih =>
    rw [List.cons_append, List.find?_cons, List.find?_cons]
    by_cases h : x.1 = p
    · rw [decide_eq_true h]
      rfl
    · rw [decide_eq_false h]
      exact ih
theorem tget_none {E : List PK} {p : Int × Int} (h : p ∉ E.map Prod.fst) : tget E p = none := by
  unfold tget
  cases e : E.find? fun e => decide (e.1 = p) with
  | none => rfl
  | some x =>
    have h1 := List.mem_of_find?_eq_some e
    have h2 := List.find?_some e
    have h3 : x.1 = p := of_decide_eq_true h2
    exact absurd (List.mem_map.mpr ⟨x, h1, h3⟩) h
theorem tget_at {E : List PK} (nd : (E.map Prod.fst).Nodup) {i : Nat} {e : PK} (h : E[i]? = some e) : tget (E.take i) e.1 = none := by
  refine tget_none fun z => ?_
  obtain ⟨j, hj⟩ := List.getElem?_of_mem z
  have hi := (List.getElem?_eq_some_iff.mp h).1
  rw [List.getElem?_map, List.getElem?_take] at hj
  by_cases hji : j < i
  · rw [if_pos hji, List.getElem?_eq_getElem (by omega)] at hj
    have e1 : E[j].1 = e.1 := Option.some.inj hj
    have n1 := (List.pairwise_iff_getElem.mp nd) j i (by rw [List.length_map]; omega) (by rw [List.length_map]; omega) hji
    rw [List.getElem_map, List.getElem_map] at n1
    rw [List.getElem?_eq_getElem hi] at h
    refine n1 (e1.trans ?_)
    rw [← Option.some.inj h]
  · rw [if_neg hji] at hj
    cases hj
theorem tget_put (E : List PK) (p q : Int × Int) (v : Int) : tget (tput E p v) q = if q = p then some v else tget E q := by
  have h : valV ((tput E p v).map kvT) (kT q) = valV (putK (E.map kvT) (kT p) (.int v)) (kT q) := by rw [putK_T]
  rw [valV_T, valV_put, valV_T] at h
  by_cases e : q = p
  · subst e
    rw [if_pos rfl] at h ⊢
    cases hh : tget (tput E q v) q with
    | none => rw [hh] at h; cases h
    | some u =>
      rw [hh] at h
      injection h with h
      injection h with h
      rw [h]
  · rw [if_neg (fun z => e (kT_inj.mp z))] at h
    rw [if_neg e]
    cases h1 : tget (tput E p v) q with
    | none =>
      rw [h1] at h
      cases h2 : tget E q with
      | none => rfl
      | some u => rw [h2] at h; cases h
    | some u =>
      rw [h1] at h
      cases h2 : tget E q with
      | none => rw [h2] at h; cases h
      | some u2 =>
        rw [h2] at h
        injection h with h
        injection h with h
        rw [h]
abbrev lb39 (C : Addr) (A : BlA) (s : BlS) (la sd bf : Addr) (ls : List Addr) (E F : List PK) : List (Addr × HO) := [(bf, .dT (F.map kvT)), (sd, .dT (E.map kvT)), (la, .lst (ls.map V.ref)), (A.p, .ins C A.dx s.fs)]
section
variable {P : Program} {w : World} {K : PySem.W.Frag} {mg : Str → Option Value} {base : Heap}
def sp_u_law_bills (K : PySem.W.Frag) (C : Addr) : Sp := fun vs H Q _ => ∃ (A : BlA) (s : BlS) (la sd bf : Addr) (ls : List Addr) (E F : List PK) (B : Hp), vs = [.ref A.p, .ref la, .int s.sr, .ref sd, .ref bf] ∧ Cells H B (lb39 C A s la sd bf ls E F) ∧ B s.bd = some (.dT (s.R.map kvT)) ∧ 0 ≤ s.sr ∧ (s.sr = 0 → s.R = []) ∧
  (0 < s.sr → s.sr ≤ (ls.length : Int) ∧ ∃ l, ls[(s.sr - 1).toNat]? = some l ∧ LtAt B l s.sr s.R) ∧ (s.R.map Prod.fst).Nodup ∧ (∀ p, (tget s.R p).getD 0 ≤ (tget E p).getD 0) ∧ (∀ p, (tget F p).getD 0 ≤ (tget s.R p).getD 0) ∧ F.length ≤ 1000 ∧ ls.length ≤ 1000 ∧
  ∀ F' H', Own H B ((lb39 C A s la sd bf ls E F).map Prod.fst) B (lb39 C A s la sd bf ls E F') H' → (∀ p, (tget F' p).getD 0 ≤ (tget s.R p).getD 0) → F'.length ≤ F.length + 8 → Q (.bl true) H'
@[irreducible] def ip_u_law_bills (K : PySem.W.Frag) (C : Addr) : Sp := sp_u_law_bills K C
theorem op_u_law_bills {K : PySem.W.Frag} {C : Addr} {vs : List V} {H : Hp} {Q : VK} {E : XK} (h : sp_u_law_bills K C vs H Q E) : ip_u_law_bills K C vs H Q E := by
  unfold ip_u_law_bills
  exact h
theorem un_u_law_bills {K : PySem.W.Frag} {C : Addr} {vs : List V} {H : Hp} {Q : VK} {E : XK} (h : ip_u_law_bills K C vs H Q E) : sp_u_law_bills K C vs H Q E := by
  unfold ip_u_law_bills at h
  exact h
theorem ok_u_law_bills (T : Tx P w K mg base) : FnOk P w K mg base CX0 2 T.a_u_law_bills T.d_u_law_bills ["biller", "letters", "newest", "sums", "before"] (ip_u_law_bills K T.C_Biller) := by
  have G_Biller_bill := ok_Biller_bill T
  refine T.p_u_law_bills.F.ok sc_u_law_bills (fun vs H Q E h => ?_) (fun cdv A outer s H vs Q E hr h => ?_)
  · obtain ⟨A, s', la, sd, bf, ls, E, F, B, rfl, c, hbd, h0, hz, hlet, nd, hle, hlo, hfl, hel, q⟩ := un_u_law_bills h
    rfl
  · obtain ⟨A, s', la, sd, bf, ls, E, F, B, rfl, c, hbd, h0, hz, hlet, nd, hle, hlo, hfl, hel, q⟩ := un_u_law_bills h
    refine ⟨_, (pss_cons (ps_forR1 PassesOwn.never rfl rfl T.n_range (pa_cons pe_int pa_nil) (pg_name (i := 5) sc_u_law_bills.nd rfl (Or.inl rfl)) (pss_one (ps_forR1 PassesOwn.never rfl rfl T.n_range (pa_cons pe_int pa_nil) (pg_name (i := 6) sc_u_law_bills.nd rfl (Or.inl rfl)) (pss_cons (ps_set (i := 7) sc_u_law_bills.nd rfl (Or.inl rfl) pe_int) (pss_cons (ps_ifJ (pt_cmpR op_gtM (pv 2) pe_int (nomark _)) (pss_one (ps_forT PassesOwn.never rfl (pe_ix ix_tupM (pe_ix ix_listM (pv 1) (pe_op op_subM (pv 2) pe_int) (fun _ _ => rfl)) pe_int (fun _ _ => rfl)) (pg_name (i := 8) sc_u_law_bills.nd rfl (Or.inl rfl)) (pss_one (ps_ifJ (PW.pt (pw_andM (pt_cmpR op_eq (pe_ix ix_tupM (pv 8) pe_int (fun _ _ => rfl)) (pv 5) (nomark _)) (pw_and1 (pt_cmpR op_eq (pe_ix ix_tupM (pv 8) pe_int (fun _ _ => rfl)) (pv 6) (nomark _))))) (pss_one (ps_set (i := 7) sc_u_law_bills.nd rfl (Or.inl rfl) (pe_ix ix_tupM (pv 8) pe_int (fun _ _ => rfl)))) pss_nil)))) pss_nil) (pss_cons (ps_set (i := 9) sc_u_law_bills.nd rfl (Or.inl rfl) (meth_weak (pe_meth (pe_c (pv 0)) T.k_Biller.cl T.p_Biller_bill.me G_Biller_bill (hr.mono (by decide)) T.p_Biller_bill.b .nil pass0 (pa_cons (pv 5) (pa_cons (pv 6) pa_nil))))) (pss_cons (ps_ifM (PW.pt (pw_orM (pt_cmpR op_ne (pv 9) (pv 7) (nomark _)) (pw_orM (pt_val (pe_callB call_isiM (by rfl) T.n_isinstance (by decide +kernel) (pa_cons (pv 9) (pa_cons (pe_bltn (v := .ty "bool") rfl T.n_bool (by decide +kernel) rfl) pa_nil)))) (pw_or1 (pt_cmpR op_gtM (pv 9) (pe_dget2TM (hu_of hr) (pv 3) (pe_tupM (pa_cons (pv 5) (pa_cons (pv 6) pa_nil))) pe_int) (nomark _)))))) (pss_one (ps_ret pe_bl)) pss_nil) (pss_cons (ps_ifM (pt_cmpR op_ltM (pv 9) (pe_dget2TM (hu_of hr) (pv 4) (pe_tupM (pa_cons (pv 5) (pa_cons (pv 6) pa_nil))) pe_int) (nomark _)) (pss_one (ps_ret pe_bl)) pss_nil) (pss_one (ps_dputTM (hu_of hr) (pv 4) (pe_tupM (pa_cons (pv 5) (pa_cons (pv 6) pa_nil))) (pv 9))))))))))) (pss_one (ps_ret pe_bl))), ?_⟩
    have w0 : Own H B ((lb39 T.C_Biller A s' la sd bf ls E F).map Prod.fst) B (lb39 T.C_Biller A s' la sd bf ls E F) H := c.start
    refine rd_forR1 ?_
    (repeat walk_at "rd")
    refine ⟨4, fun i σ H' => Stop (∃ (F' : List PK) (y5 y6 y7 y8 y9 : Option V), Own H B ((lb39 T.C_Biller A s' la sd bf ls E F).map Prod.fst) B (lb39 T.C_Biller A s' la sd bf ls E F') H' ∧ (∀ p, (tget F' p).getD 0 ≤ (tget s'.R p).getD 0) ∧ F'.length ≤ F.length + 2 * i ∧ σ = [some (.ref A.p), some (.ref la), some (.int s'.sr), some (.ref sd), some (.ref bf), y5, y6, y7, y8, y9]), rfl, ⟨by omega, by omega⟩, .a ⟨F, _, _, _, _, _, w0, hlo, Nat.le_refl _, rfl⟩, fun i σ' H' hi w => ?_, fun σ' H' w => ?_⟩
    · obtain ⟨F1, y5, y6, y7, y8, y9, w1, hlo1, hfl1, rfl⟩ := w.un
      refine frG (σ' := [some (.ref A.p), some (.ref la), some (.int s'.sr), some (.ref sd), some (.ref bf), some (.int (i : Nat)), y6, y7, y8, y9]) rfl ?_
      refine rd_forR1 ?_
      (repeat walk_at "rd")
      refine ⟨2, fun j σ H' => Stop (∃ (F' : List PK) (y6 y7 y8 y9 : Option V), Own H B ((lb39 T.C_Biller A s' la sd bf ls E F).map Prod.fst) B (lb39 T.C_Biller A s' la sd bf ls E F') H' ∧ (∀ p, (tget F' p).getD 0 ≤ (tget s'.R p).getD 0) ∧ F'.length ≤ F.length + 2 * i + j ∧ σ = [some (.ref A.p), some (.ref la), some (.int s'.sr), some (.ref sd), some (.ref bf), some (.int (i : Nat)), y6, y7, y8, y9]), rfl, ⟨by omega, by omega⟩, .a ⟨F1, _, _, _, _, w1, hlo1, by omega, rfl⟩, fun j σ' H' hj w => ?_, fun σ' H' w => ?_⟩
      · obtain ⟨F2, y6, y7, y8, y9, w2, hlo2, hfl2, rfl⟩ := w.un
        clear w
        have hi4 : i < 4 := by omega
        have hj2 : j < 2 := by omega
        refine frG (σ' := [some (.ref A.p), some (.ref la), some (.int s'.sr), some (.ref sd), some (.ref bf), some (.int (i : Nat)), some (.int (j : Nat)), y7, y8, y9]) rfl ?_
        (repeat walk_at "rd")
        refine rd_ifJ (fun σ' H3 => Stop (H3 = H' ∧ ∃ x8, σ' = [some (.ref A.p), some (.ref la), some (.int s'.sr), some (.ref sd), some (.ref bf), some (.int (i : Nat)), some (.int (j : Nat)), some (.int ((tget s'.R ((i : Int), (j : Int))).getD 0)), x8, y9])) (fun h => ?_) (fun h => ?_) (fun σ' H3 w => ?_)
        · have hpos : 0 < s'.sr := of_decide_eq_true h
          obtain ⟨hle2, l, hl, hlt⟩ := hlet hpos
          obtain ⟨rt, h1, h2⟩ := hlt.ex
          obtain ⟨ts, h3, h4, h5⟩ := h2.ex
          refine rd_forT ?_
          (repeat walk_at "rd")
          refine rd_ixL (v := .ref l) (sq_of (w2.mem (.tail _ (.tail _ (.head _))))) (at_of (j := (s'.sr - 1).toNat) (by omega) (by rw [List.getElem?_map, hl]; rfl)) ?_
          (repeat walk_at "rd")
          refine rd_ixT (st_of (w2.imm _ _ h1)) rfl ?_
          refine ⟨rt, ts.map V.ref, fun k σ' H3 => Stop (H3 = H' ∧ ∃ x8, σ' = [some (.ref A.p), some (.ref la), some (.int s'.sr), some (.ref sd), some (.ref bf), some (.int (i : Nat)), some (.int (j : Nat)), some (.int ((tget (s'.R.take k) ((i : Int), (j : Int))).getD 0)), x8, y9]), rfl, st_of (w2.imm _ _ h3), .a ⟨rfl, _, rfl⟩, fun k σ' H3 hk p => ?_, fun k y σ' H3 hy p => ?_, fun σ' H3 p => ?_⟩
          · obtain ⟨rfl, x8, rfl⟩ := p.un
            exact st_of (w2.imm _ _ h3)
          · obtain ⟨rfl, x8, rfl⟩ := p.un
            rw [List.getElem?_map] at hy
            obtain ⟨t, ht, rfl⟩ := Option.map_eq_some_iff.mp hy
            have hkl := (List.getElem?_eq_some_iff.mp ht).1
            have hkR : k < s'.R.length := by omega
            have hR : s'.R[k]? = some s'.R[k] := List.getElem?_eq_getElem hkR
            have htv := w2.imm _ _ (h5 k t _ ht hR)
            have hnew := tget_at nd hR
            have hsn : s'.R.take (k + 1) = s'.R.take k ++ [s'.R[k]] := by
              rw [List.take_succ, hR]
              rfl
            generalize s'.R[k] = e at htv hnew hsn hR
            (repeat walk_at "rd")
            refine rd_ixT (st_of htv) rfl ?_
            (repeat walk_at "rd")
            have hstep : ∀ b : Bool, b = decide (e.1 = ((i : Int), (j : Int))) → (tget (s'.R.take (k + 1)) ((i : Int), (j : Int))).getD 0 = if b = true then e.2 else (tget (s'.R.take k) ((i : Int), (j : Int))).getD 0 := fun b hb => by
              rw [hsn, tget_snoc, hb]
              by_cases hc : e.1 = ((i : Int), (j : Int))
              · rw [if_pos hc, if_pos (decide_eq_true hc), ← hc, hnew]
                rfl
              · rw [if_neg hc, if_neg (by rw [decide_eq_false hc]; decide), Option.or_none]
            have hno : ¬ e.1 = ((i : Int), (j : Int)) → Stop (H3 = H3 ∧ ∃ x8, [some (.ref A.p), some (.ref la), some (.int s'.sr), some (.ref sd), some (.ref bf), some (.int (i : Nat)), some (.int (j : Nat)), some (.int ((tget (s'.R.take k) ((i : Int), (j : Int))).getD 0)), some (.ref t), y9] = [some (.ref A.p), some (.ref la), some (.int s'.sr), some (.ref sd), some (.ref bf), some (.int (i : Nat)), some (.int (j : Nat)), some (.int ((tget (s'.R.take (k + 1)) ((i : Int), (j : Int))).getD 0)), x8, y9]) := fun hc => .a ⟨rfl, _, by rw [hstep false (decide_eq_false hc).symm]; rfl⟩
            refine br_eby (fun ha => ?_) (fun ha => ?_)
            · (repeat walk_at "rd")
              refine rd_ixT (st_of htv) rfl ?_
              (repeat walk_at "rd")
              refine rd_ifJ _ (fun hb => ?_) (fun hb => ?_) (fun _ _ w => w)
              · have hb := V.int.inj (of_decide_eq_true hb)
                have hc : e.1 = ((i : Int), (j : Int)) := Prod.ext ha hb
                (repeat walk_at "rd")
                refine rd_ixT (st_of htv) rfl ?_
                exact .a ⟨rfl, _, by rw [hstep true (decide_eq_true hc).symm]; rfl⟩
              · have hb := of_decide_eq_false hb
                exact hno fun z => hb (by rw [z])
            · refine rd_ifJ _ (fun hb => (by cases hb)) (fun hb => ?_) (fun _ _ w => w)
              exact hno fun z => ha (by rw [z])
          · obtain ⟨rfl, x8, rfl⟩ := p.un
            rw [List.length_map, h4, List.take_length]
            exact .a ⟨rfl, _, rfl⟩
        · have hz0 : s'.sr = 0 := by
            have := of_decide_eq_false h
            omega
          refine .a ⟨rfl, y8, ?_⟩
          rw [hz hz0]
          rfl
        obtain ⟨rfl, x8, rfl⟩ := w.un
        have hA := w2.mem (.tail _ (.tail _ (.tail _ (.head _))))
        (repeat walk_at "rd")
        refine op_Biller_bill ⟨A, s', i, j, rfl, hA, w2.imm _ _ hbd, fun H4 s4 => ?_⟩
        have w3 := w2.more s4
        (repeat walk_at "rd")
        refine br_ni rfl ?_
        (repeat walk_at "rd")
        refine rd_isDT (.inl (w3.mem (.tail _ (.head _)))) ?_
        (repeat walk_at "rd")
        intro t5 H5 n5 s5 e5
        have w4 := w3.more s5
        refine rd_dget2T (p := ((i : Int), (j : Int))) (.inl (w4.mem (.tail _ (.head _)))) e5 ?_
        (repeat walk_at "rd")
        refine br_f (by have := hle ((i : Int), (j : Int)); omega) ?_
        (repeat walk_at "rd")
        refine rd_isDT (.inl (w4.mem (.head _))) ?_
        (repeat walk_at "rd")
        intro t6 H6 n6 s6 e6
        have w5 := w4.more s6
        refine rd_dget2T (p := ((i : Int), (j : Int))) (.inl (w5.mem (.head _))) e6 ?_
        (repeat walk_at "rd")
        refine br_f (by have := hlo2 ((i : Int), (j : Int)); omega) ?_
        (repeat walk_at "rd")
        intro t7 H7 n7 s7 e7
        have w6 := w5.more s7
        refine rd_dputT (p := ((i : Int), (j : Int))) (w6.mem (.head _)) e7 (by omega) ?_
        have w7 := w6.set 0 rfl (.dT ((tput F2 ((i : Int), (j : Int)) ((tget s'.R ((i : Int), (j : Int))).getD 0)).map kvT))
        have hbl := tput_len F2 ((i : Int), (j : Int)) ((tget s'.R ((i : Int), (j : Int))).getD 0)
        refine .a ⟨tput F2 ((i : Int), (j : Int)) ((tget s'.R ((i : Int), (j : Int))).getD 0), _, _, _, _, w7, fun p => ?_, by omega, rfl⟩
        rw [tget_put]
        split
        · rename_i hp
          rw [hp]
          exact Int.le_refl _
        · exact hlo2 p
      · obtain ⟨F2, y6, y7, y8, y9, w2, hlo2, hfl2, rfl⟩ := w.un
        exact .a ⟨F2, _, _, _, _, _, w2, hlo2, by omega, rfl⟩
    · obtain ⟨F2, y5, y6, y7, y8, y9, w2, hlo2, hfl2, rfl⟩ := w.un
      (repeat walk_at "rd")
      exact q F2 _ w2 hlo2 (by omega)
end
def rowP (e : PK) : PyData := .tuple [.int e.1.1, .int e.1.2, .int e.2]
def ltD (n : Int) (R : List PK) : PyData := .tuple [.int n, .tuple (R.map rowP)]
theorem dpa_pk {K : PySem.W.Frag} {H : Hp} : ∀ {ts : List Addr} {R : List PK}, ts.length = R.length → (∀ (i : Nat) (t : Addr) (e : PK), ts[i]? = some t → R[i]? = some e → H t = some (.tup [.int e.1.1, .int e.1.2, .int e.2])) → DpAll K H (ts.map V.ref) (R.map rowP)
  | [], [], _, _ => .nil
  | [], _ :: _, hl, _ => by cases hl
  | _ :: _, [], hl, _ => by cases hl
  | t :: ts, e :: R, hl, h => .cons (.tup (st_of (h 0 t e rfl rfl)) (.cons (.int _) (.cons (.int _) (.cons (.int _) .nil)))) (dpa_pk (Nat.succ.inj hl) fun i t2 e2 h1 h2 => h (i + 1) t2 e2 h1 h2)
theorem RtAt.dp {K : PySem.W.Frag} {H : Hp} {rt : Addr} {R : List PK} (h : RtAt H rt R) : Dp K H (.ref rt) (.tuple (R.map rowP)) := by
  obtain ⟨ts, h1, h2, h3⟩ := h.ex
  exact .tup (st_of h1) (dpa_pk h2 h3)
theorem LtAt.dp {K : PySem.W.Frag} {H : Hp} {l : Addr} {n : Int} {R : List PK} (h : LtAt H l n R) : Dp K H (.ref l) (ltD n R) := by
  obtain ⟨rt, h1, h2⟩ := h.ex
  exact .tup (st_of h1) (.cons (.int _) (.cons h2.dp .nil))
theorem sh_lt (n : Int) (R : List PK) : Sh 3 (ltD n R) := sh_tup (sh_cons sh_int (sh_cons (sh_tup (sh_map (fun e => sh_tup (sh_cons sh_int (sh_cons sh_int (sh_cons sh_int sh_nil)))) R)) sh_nil))
/-- the letters: their serials count up -/
structure LsAt (B : Hp) (ls : List Addr) (Ls : List (List PK)) : Prop where
  ln : ls.length = Ls.length
  at' : ∀ (i : Nat) (l : Addr) (R : List PK), ls[i]? = some l → Ls[i]? = some R → LtAt B l ((i : Int) + 1) R
theorem LsAt.mono {B B' : Hp} {ls : List Addr} {Ls : List (List PK)} (h : LsAt B ls Ls) (s : Same B B') : LsAt B' ls Ls := ⟨h.ln, fun i l R h1 h2 => (h.at' i l R h1 h2).mono s⟩
theorem LsAt.snoc {B : Hp} {ls : List Addr} {Ls : List (List PK)} {l : Addr} {R : List PK} (h : LsAt B ls Ls) (hl : LtAt B l ((Ls.length : Int) + 1) R) : LsAt B (ls ++ [l]) (Ls ++ [R]) := by
  refine ⟨by rw [List.length_append, List.length_append, h.ln]; rfl, fun i l2 R2 h1 h2 => ?_⟩
  by_cases hi : i < Ls.length
  · rw [List.getElem?_append_left (by rw [h.ln]; exact hi)] at h1
    rw [List.getElem?_append_left hi] at h2
    exact h.at' i l2 R2 h1 h2
  · have h2l := (List.getElem?_eq_some_iff.mp h2).1
    rw [List.length_append, List.length_singleton] at h2l
    have e : i = Ls.length := by omega
    subst e
    rw [List.getElem?_append_right (by rw [h.ln]; exact Nat.le_refl _), h.ln, Nat.sub_self] at h1
    rw [List.getElem?_append_right (Nat.le_refl _), Nat.sub_self] at h2
    cases h1
    cases h2
    exact hl
theorem lets_dp {K : PySem.W.Frag} {H : Hp} {B : Hp} (s : Same B H) : ∀ {ls : List Addr} {Ls : List (List PK)} (k : Nat), ls.length = Ls.length → (∀ (i : Nat) (l : Addr) (R : List PK), ls[i]? = some l → Ls[i]? = some R → LtAt B l ((i : Int) + k + 1) R) → ∃ ds : List PyData, ds.length = Ls.length ∧ DpAll K H (ls.map V.ref) ds ∧ ShA 3 ds
  | [], [], _, _, _ => ⟨[], rfl, .nil, sh_nil⟩
  | [], _ :: _, _, hl, _ => by cases hl
  | _ :: _, [], _, hl, _ => by cases hl
  | l :: ls, R :: Ls, k, hl, h => by
    obtain ⟨ds, h1, h2, h3⟩ := lets_dp (K := K) s (ls := ls) (Ls := Ls) (k + 1) (Nat.succ.inj hl) fun i l2 R2 e1 e2 => by
      have z := h (i + 1) l2 R2 e1 e2
      have ez : (((i + 1 : Nat) : Int) + k + 1) = ((i : Int) + ((k + 1 : Nat) : Int) + 1) := by omega
      rw [ez] at z
      exact z
    exact ⟨ltD _ R :: ds, congrArg Nat.succ h1, .cons ((h 0 l R rfl rfl).mono s).dp h2, sh_cons (sh_lt _ R) h3⟩
theorem eqv_nil (ds : List PyData) : PyData.eqv (.list ds) (.list []) = decide (ds = []) := by
  rw [PyData.eqv]
  cases ds with
  | nil => rfl
  | cons d r =>
    rw [decide_eq_false (fun z => (by cases z))]
    rw [PyData.eqvAll]
    all_goals (intros; nofun)
theorem leP_anti {p q : Int × Int} (h : leP p q) (k : leP q p) : p = q := by
  unfold leP at h k
  exact Prod.ext (by omega) (by omega)
theorem RowsOf.tget {E R : List PK} (h : RowsOf E R) (p : Int × Int) : tget R p = tget E p := by
  by_cases hp : p ∈ R.map Prod.fst
  · obtain ⟨v, hv⟩ := tget_mem hp
    rw [hv]
    unfold My.tget at hv
    obtain ⟨e, he, ev⟩ := Option.map_eq_some_iff.mp hv
    have h2 := List.find?_some he
    have h3 : e.1 = p := of_decide_eq_true h2
    have h4 := h.val e (List.mem_of_find?_eq_some he)
    rw [h3, ev] at h4
    exact h4.symm
  · rw [tget_none hp, tget_none (fun z => hp (h.pm.mem_iff.mpr z))]
theorem RowsOf.uniq {E R R' : List PK} (h : RowsOf E R) (h' : RowsOf E R') : R = R' := by
  have ek : R.map Prod.fst = R'.map Prod.fst := List.Perm.eq_of_pairwise (le := leP) (fun a b _ _ h1 h2 => leP_anti h1 h2) h.asc h'.asc (h.pm.trans h'.pm.symm)
  refine List.ext_getElem? fun i => ?_
  have ei : (R.map Prod.fst)[i]? = (R'.map Prod.fst)[i]? := by rw [ek]
  rw [List.getElem?_map, List.getElem?_map] at ei
  cases e1 : R[i]? with
  | none =>
    rw [e1] at ei
    cases e2 : R'[i]? with
    | none => rfl
    | some y => rw [e2] at ei; cases ei
  | some x =>
    rw [e1] at ei
    cases e2 : R'[i]? with
    | none => rw [e2] at ei; cases ei
    | some y =>
      rw [e2] at ei
      have ex : x.1 = y.1 := Option.some.inj ei
      have v1 := h.val x (List.mem_of_getElem? e1)
      have v2 := h'.val y (List.mem_of_getElem? e2)
      rw [ex, v2] at v1
      exact congrArg some (Prod.ext ex (Option.some.inj v1).symm)
theorem RowsOf.nd {E R : List PK} (h : RowsOf E R) (nd : (E.map Prod.fst).Nodup) : (R.map Prod.fst).Nodup := h.pm.nodup_iff.mpr nd
theorem RowsOf.len {E R : List PK} (h : RowsOf E R) : R.length = E.length := by
  have := h.pm.length_eq
  rwa [List.length_map, List.length_map] at this
theorem tput_nd {E : List PK} (p : Int × Int) (v : Int) (nd : (E.map Prod.fst).Nodup) : ((tput E p v).map Prod.fst).Nodup := by
  unfold tput
  split
  · have e : (E.map fun e => if e.1 = p then (e.1, v) else e).map Prod.fst = E.map Prod.fst := by
      rw [List.map_map]
      refine List.map_congr_left fun x _ => ?_
      show (if x.1 = p then (x.1, v) else x).1 = x.1
      split <;> rfl
    rw [e]
    exact nd
  · rename_i h
    rw [List.map_append]
    exact List.nodup_append.mpr ⟨nd, List.nodup_cons.mpr ⟨fun z => (by cases z), .nil⟩, fun a ha b hb e => by
      rw [List.mem_singleton.mp hb] at e
      rw [e] at ha
      exact h ha⟩
/-- what the law's lists say of meter and biller -/
structure I39 (k : Nat) (Ls : List (List PK)) (s : MtS) (b : BlS) (an : List Int) (F : List PK) : Prop where
  nd : (s.E.map Prod.fst).Nodup
  el : s.E.length ≤ k
  nn : s.n = (Ls.length : Int)
  rs : ∀ R ∈ Ls, (R.map Prod.fst).Nodup ∧ R.length ≤ 900 ∧ (∀ p, 0 ≤ (tget R p).getD 0) ∧ ∀ p, (tget R p).getD 0 ≤ (tget s.E p).getD 0
  mo : ∀ (i j : Nat) (R R' : List PK), i ≤ j → Ls[i]? = some R → Ls[j]? = some R' → ∀ p, (tget R p).getD 0 ≤ (tget R' p).getD 0
  ps : ∀ p, 0 ≤ (tget s.E p).getD 0
  cl : s.more = false → (Ls = [] ∧ s.E = []) ∨ ∃ R, Ls[Ls.length - 1]? = some R ∧ RowsOf s.E R
  br : 0 ≤ b.sr ∧ b.sr ≤ (Ls.length : Int)
  b0 : b.sr = 0 → b.R = []
  b1 : 0 < b.sr → Ls[(b.sr - 1).toNat]? = some b.R
  as : ∀ a ∈ an, 0 ≤ a ∧ a ≤ b.sr
  kn : 0 ≤ s.ans ∧ s.ans ≤ b.sr
  fl : F.length ≤ 8 * k
  fF : ∀ p, (tget F p).getD 0 ≤ (tget b.R p).getD 0
  ll : Ls.length ≤ k
  al : an.length ≤ k
section
variable {k : Nat} {Ls : List (List PK)} {s : MtS} {b : BlS} {an : List Int} {F : List PK}
theorem I39.add (h : I39 k Ls s b an F) {p : Int × Int} {size : Int} (hz : 0 < size) : I39 (k + 1) Ls { s with E := tput s.E p ((tget s.E p).getD 0 + size), more := true } b an F := by
  have up : ∀ q, (tget s.E q).getD 0 ≤ (tget (tput s.E p ((tget s.E p).getD 0 + size)) q).getD 0 := fun q => by
    rw [tget_put]
    split
    · rename_i e
      rw [e]
      show _ ≤ (tget s.E p).getD 0 + size
      omega
    · exact Int.le_refl _
  refine ⟨tput_nd _ _ h.nd, ?_, h.nn, fun R hR => ?_, h.mo, fun q => Int.le_trans (h.ps q) (up q), fun z => (by cases z), h.br, h.b0, h.b1, h.as, h.kn, ?_, h.fF, Nat.le_succ_of_le h.ll, Nat.le_succ_of_le h.al⟩
  · have h1 := tput_len s.E p ((tget s.E p).getD 0 + size)
    have h2 := h.el
    show (tput s.E p ((tget s.E p).getD 0 + size)).length ≤ k + 1
    omega
  · obtain ⟨z1, z2, z3, z4⟩ := h.rs R hR
    exact ⟨z1, z2, z3, fun q => Int.le_trans (z4 q) (up q)⟩
  · have := h.fl
    omega
theorem I39.write (h : I39 k Ls s b an F) (hk : k ≤ 900) {R : List PK} (hr : RowsOf s.E R) (l : Addr) : I39 (k + 1) (Ls ++ [R]) { s with lv := .ref l, n := s.n + 1, more := false } b an F := by
  have hbr := h.br
  refine ⟨h.nd, Nat.le_succ_of_le h.el, ?_, fun R' hR => ?_, fun i j R1 R2 hij h1 h2 p => ?_, h.ps, fun _ => .inr ⟨R, ?_, hr⟩, ⟨hbr.1, ?_⟩, h.b0, fun z => ?_, h.as, h.kn, ?_, h.fF, ?_, Nat.le_succ_of_le h.al⟩
  · show s.n + 1 = _
    rw [h.nn, List.length_append, List.length_singleton]
    omega
  · rcases List.mem_append.mp hR with hR | hR
    · exact h.rs R' hR
    · rw [List.mem_singleton.mp hR]
      refine ⟨hr.nd h.nd, by rw [hr.len]; exact Nat.le_trans h.el hk, fun p => ?_, fun p => ?_⟩
      · rw [hr.tget]
        exact h.ps p
      · rw [hr.tget]
        exact Int.le_refl _
  · have hj := (List.getElem?_eq_some_iff.mp h2).1
    rw [List.length_append, List.length_singleton] at hj
    by_cases hjl : j < Ls.length
    · rw [List.getElem?_append_left (by omega)] at h1
      rw [List.getElem?_append_left hjl] at h2
      exact h.mo i j R1 R2 hij h1 h2 p
    · have ej : j = Ls.length := by omega
      subst ej
      rw [List.getElem?_append_right (Nat.le_refl _), Nat.sub_self] at h2
      cases h2
      rw [hr.tget]
      by_cases hil : i < Ls.length
      · rw [List.getElem?_append_left hil] at h1
        exact (h.rs R1 (List.mem_of_getElem? h1)).2.2.2 p
      · have ei : i = Ls.length := by omega
        subst ei
        rw [List.getElem?_append_right (Nat.le_refl _), Nat.sub_self] at h1
        cases h1
        rw [hr.tget]
        exact Int.le_refl _
  · rw [List.length_append, List.length_singleton, Nat.add_sub_cancel, List.getElem?_append_right (Nat.le_refl _), Nat.sub_self]
    rfl
  · rw [List.length_append]
    omega
  · rw [List.getElem?_append_left (by omega)]
    exact h.b1 z
  · have := h.fl
    omega
  · rw [List.length_append, List.length_singleton]
    exact Nat.succ_le_succ h.ll
theorem I39.came (h : I39 k Ls s b an F) {n : Int} {R : List PK} (hn : 1 ≤ n ∧ n ≤ (Ls.length : Int)) (hR : Ls[(n - 1).toNat]? = some R) (hlt : b.sr < n) (bd : Addr) : I39 (k + 1) Ls s ⟨n, bd, R⟩ (an ++ [n]) F := by
  have hbr := h.br
  have hkn := h.kn
  refine ⟨h.nd, Nat.le_succ_of_le h.el, h.nn, h.rs, h.mo, h.ps, h.cl, ⟨by show 0 ≤ n; omega, hn.2⟩, fun z => (by have z : n = 0 := z; omega), fun _ => hR, fun a ha => ?_, ⟨hkn.1, by show s.ans ≤ n; omega⟩, (by have := h.fl; omega), fun p => ?_, Nat.le_succ_of_le h.ll, (by rw [List.length_append]; exact Nat.succ_le_succ h.al)⟩
  · show 0 ≤ a ∧ a ≤ n
    rcases List.mem_append.mp ha with ha | ha
    · have := h.as a ha
      omega
    · rw [List.mem_singleton.mp ha]
      omega
  · show (tget F p).getD 0 ≤ (tget R p).getD 0
    have hF := h.fF p
    by_cases hz : b.sr = 0
    · rw [h.b0 hz] at hF
      have hF : (tget F p).getD 0 ≤ 0 := hF
      have := (h.rs R (List.mem_of_getElem? hR)).2.2.1 p
      omega
    · exact Int.le_trans hF (h.mo _ _ _ _ (by omega) (h.b1 (by omega)) hR p)
theorem I39.again (h : I39 k Ls s b an F) : I39 (k + 1) Ls s b (an ++ [b.sr]) F := by
  refine ⟨h.nd, Nat.le_succ_of_le h.el, h.nn, h.rs, h.mo, h.ps, h.cl, h.br, h.b0, h.b1, fun a ha => ?_, h.kn, (by have := h.fl; omega), h.fF, Nat.le_succ_of_le h.ll, (by rw [List.length_append]; exact Nat.succ_le_succ h.al)⟩
  rcases List.mem_append.mp ha with ha | ha
  · exact h.as a ha
  · rw [List.mem_singleton.mp ha]
    exact ⟨h.br.1, Int.le_refl _⟩
theorem I39.told (h : I39 k Ls s b an F) {a : Int} (ha : a ∈ an) : I39 (k + 1) Ls { s with ans := max s.ans a } b an F := by
  have h1 := h.as a ha
  have h2 := h.kn
  exact ⟨h.nd, Nat.le_succ_of_le h.el, h.nn, h.rs, h.mo, h.ps, h.cl, h.br, h.b0, h.b1, h.as, ⟨by show 0 ≤ max s.ans a; omega, by show max s.ans a ≤ b.sr; omega⟩, (by have := h.fl; omega), h.fF, Nat.le_succ_of_le h.ll, Nat.le_succ_of_le h.al⟩
theorem I39.idle (h : I39 k Ls s b an F) : I39 (k + 1) Ls s b an F := ⟨h.nd, Nat.le_succ_of_le h.el, h.nn, h.rs, h.mo, h.ps, h.cl, h.br, h.b0, h.b1, h.as, h.kn, (by have := h.fl; omega), h.fF, Nat.le_succ_of_le h.ll, Nat.le_succ_of_le h.al⟩
theorem I39.seen (h : I39 k Ls s b an F) {F' : List PK} (hl : F'.length ≤ 8 * k) (hF : ∀ p, (tget F' p).getD 0 ≤ (tget b.R p).getD 0) : I39 k Ls s b an F' := ⟨h.nd, h.el, h.nn, h.rs, h.mo, h.ps, h.cl, h.br, h.b0, h.b1, h.as, h.kn, hl, hF, h.ll, h.al⟩
/-- what is settled is billed -/
theorem I39.bill (h : I39 k Ls s b an F) (hs : s.ans = s.n) (hm : s.more = false) (p : Int × Int) : (tget b.R p).getD 0 = (tget s.E p).getD 0 := by
  have hbr := h.br
  have hkn := h.kn
  have hnn := h.nn
  rcases h.cl hm with ⟨e1, e2⟩ | ⟨R, e1, e2⟩
  · rw [e2, h.b0 (by rw [e1] at hbr; have : ((([] : List (List PK)).length : Nat) : Int) = 0 := rfl; omega)]
  · have hl := (List.getElem?_eq_some_iff.mp e1).1
    have e3 := h.b1 (by omega)
    have ei : (b.sr - 1).toNat = Ls.length - 1 := by omega
    rw [ei, e1] at e3
    rw [← Option.some.inj e3, e2.tget]
theorem I39.le (h : I39 k Ls s b an F) (p : Int × Int) : (tget b.R p).getD 0 ≤ (tget s.E p).getD 0 := by
  by_cases hz : b.sr = 0
  · rw [h.b0 hz]
    exact h.ps p
  · have := h.br
    exact (h.rs _ (List.mem_of_getElem? (h.b1 (by omega)))).2.2.2 p
theorem I39.rnd (h : I39 k Ls s b an F) : (b.R.map Prod.fst).Nodup := by
  by_cases hz : b.sr = 0
  · rw [h.b0 hz]
    exact .nil
  · have := h.br
    exact (h.rs _ (List.mem_of_getElem? (h.b1 (by omega)))).1
end
theorem tput_keys {E : List PK} {p q : Int × Int} {v : Int} (h : q ∈ (tput E p v).map Prod.fst) : q ∈ E.map Prod.fst ∨ q = p := by
  unfold tput at h
  split at h
  · have e : (E.map fun e => if e.1 = p then (e.1, v) else e).map Prod.fst = E.map Prod.fst := by
      rw [List.map_map]
      refine List.map_congr_left fun x _ => ?_
      show (if x.1 = p then (x.1, v) else x).1 = x.1
      split <;> rfl
    rw [e] at h
    exact .inl h
  · rw [List.map_append] at h
    rcases List.mem_append.mp h with h | h
    · exact .inl h
    · exact .inr (List.mem_singleton.mp h)
abbrev l39 (Cm Cb t aT lA anA sd bf : Addr) (A : MtA) (s : MtS) (Ab : BlA) (b : BlS) (ls : List Addr) (an : List Int) (F : List PK) (i r z : Int) : List (Addr × HO) := [(t, tapeL aT i r z), (A.p, .ins Cm A.dx (s.fs A)), (A.sd, .dT (s.E.map kvT)), (bf, .dT (F.map kvT)), (sd, .dT (s.E.map kvT)), (lA, .lst (ls.map V.ref)), (Ab.p, .ins Cb Ab.dx b.fs), (anA, .lst (an.map V.int))]
structure IV39 (Cm Cb t aT lA anA sd bf : Addr) (ns : List Int) (k : Nat) (H0 B : Hp) (A : MtA) (s : MtS) (Ab : BlA) (b : BlS) (ls : List Addr) (Ls : List (List PK)) (an : List Int) (F : List PK) (i r z : Int) (H' : Hp) : Prop where
  w : Own H0 H0 [] B (l39 Cm Cb t aT lA anA sd bf A s Ab b ls an F i r z) H'
  tk : TapeOk2 ns i r z
  iv : I39 k Ls s b an F
  la : LsAt B ls Ls
  lv : LastAt B s.lv s.n
  hb : B b.bd = some (.dT (b.R.map kvT))
  hT : B aT = some (.lst (ns.map V.int))
  kb : ∀ q ∈ s.E.map Prod.fst, 0 ≤ q.1 ∧ q.1 < 4
theorem say_and {i : Nat} {te : TE} {σ : L2.St} {H : Hp} {c d r : Bool} (hi : σ[i]? = some (some (.bl c))) (er : (d && c) = r) (ht : ∀ R : VK, R (.bl d) H → te σ H R) : mAndV (tVar i) te σ H (fun v H' => v = .bl r ∧ H = H') := by
  subst er
  refine ⟨_, hi, c, rfl, ?_⟩
  cases c with
  | true => exact br_T (ht _ ⟨by rw [Bool.and_true], rfl⟩)
  | false => exact br_F ⟨by rw [Bool.and_false], rfl⟩
theorem tget_nd {E : List PK} (nd : (E.map Prod.fst).Nodup) {i : Nat} {e : PK} (h : E[i]? = some e) : tget E e.1 = some e.2 := by
  have hi := (List.getElem?_eq_some_iff.mp h).1
  have e1 : E = E.take i ++ E.drop i := (List.take_append_drop i E).symm
  have e2 : E.drop i = e :: E.drop (i + 1) := by
    rw [List.drop_eq_getElem_cons hi]
    congr 1
    rw [List.getElem?_eq_getElem hi] at h
    exact Option.some.inj h
  have h0 := tget_at nd h
  unfold tget at h0 ⊢
  rw [e1, e2, List.find?_append, Option.map_eq_none_iff.mp h0, Option.none_or, List.find?_cons, decide_eq_true rfl]
  rfl
theorem at_back {xs : List V} {x : Int} {j : Nat} {v : V} (h0 : 0 ≤ x) (hj : (j : Int) = (xs.length : Int) - 1 - x) (h : xs[j]? = some v) : atI xs (-1 - x) = some v := by
  have hl := (List.getElem?_eq_some_iff.mp h).1
  have e : ixN xs.length (-1 - x) = some j := by
    unfold ixN
    rw [if_neg (by omega), if_pos (by omega)]
    congr 1
    omega
  unfold atI
  rw [e]
  exact h
theorem at2z {x y : Int} (b : Bool) : atI [V.int x, V.int y] (if b = true then 1 else 0) = some (V.int (if b = true then y else x)) := by
  cases b <;> rfl
section
variable {P : Program} {w : World} {K : PySem.W.Frag} {mg : Str → Option Value} {base : Heap}
def sp_law (K : PySem.W.Frag) : Sp := fun vs H Q _ => ∃ (a : Addr) (ns : List Int), vs = [.ref a] ∧ SqL K H a (ns.map V.int) ∧ ns.length ≤ 63 ∧ ∀ H', Q (.bl true) H'
@[irreducible] def ip_law (K : PySem.W.Frag) : Sp := sp_law K
theorem op_law {K : PySem.W.Frag} {vs : List V} {H : Hp} {Q : VK} {E : XK} (h : sp_law K vs H Q E) : ip_law K vs H Q E := by
  unfold ip_law
  exact h
theorem un_law {K : PySem.W.Frag} {vs : List V} {H : Hp} {Q : VK} {E : XK} (h : ip_law K vs H Q E) : sp_law K vs H Q E := by
  unfold ip_law at h
  exact h
theorem ok_law (T : Tx P w K mg base) : FnOk P w K mg base CX0 3 T.a_law T.d_law ["script"] (ip_law K) := by
  have G_Meter___init__ := ok_Meter___init__ T
  have G_Biller___init__ := ok_Biller___init__ T
  have G_u_law_next := ok_u_law_next T
  have G_Meter_is_settled := ok_Meter_is_settled T
  have G_Meter_metered := ok_Meter_metered T
  have G_Meter_last := ok_Meter_last T
  have G_Meter_add := ok_Meter_add T
  have G_u_law_bills := ok_u_law_bills T
  have G_Meter_write := ok_Meter_write T
  have G_Meter_take := ok_Meter_take T
  have G_Biller_take := ok_Biller_take T
  have G_Biller_bill := ok_Biller_bill T
  have G_u_law_rows := ok_u_law_rows T
  refine T.p_law.F.ok sc_law (fun vs H Q E h => ?_) (fun cdv A outer s H vs Q E hr h => ?_)
  · obtain ⟨a, ns, rfl, hS, hlen, q⟩ := un_law h
    rfl
  · obtain ⟨a, ns, rfl, hS, hlen, q⟩ := un_law h
    refine ⟨_, (pss_cons (ps_set (i := 1) sc_law.nd rfl (Or.inl rfl) (pe_lstM (pa_cons (pe_callTy call_listM (by rfl) T.n_list (by decide +kernel) (pa_cons (pv 0) pa_nil)) (pa_cons pe_int (pa_cons pe_int (pa_cons pe_int pa_nil)))))) (pss_cons (ps_set (i := 2) sc_law.nd rfl (Or.inl rfl) (pe_make0 T.k_Meter.mk' G_Meter___init__ (hr.mono (by decide)) rfl T.g_Meter T.p_Meter___init__.b .nil pass0)) (pss_cons (ps_set (i := 3) sc_law.nd rfl (Or.inl rfl) (pe_make0 T.k_Biller.mk' G_Biller___init__ (hr.mono (by decide)) rfl T.g_Biller T.p_Biller___init__.b .nil pass0)) (pss_cons (ps_set (i := 4) sc_law.nd rfl (Or.inl rfl) pe_dnewT) (pss_cons (ps_set (i := 5) sc_law.nd rfl (Or.inl rfl) (pe_lstM pa_nil)) (pss_cons (ps_set (i := 6) sc_law.nd rfl (Or.inl rfl) (pe_lstM pa_nil)) (pss_cons (ps_set (i := 7) sc_law.nd rfl (Or.inl rfl) pe_int) (pss_cons (ps_set (i := 8) sc_law.nd rfl (Or.inl rfl) pe_int) (pss_cons (ps_set (i := 9) sc_law.nd rfl (Or.inl rfl) pe_bl) (pss_cons (ps_set (i := 10) sc_law.nd rfl (Or.inl rfl) pe_dnewT) (pss_cons (ps_ifM (PW.pt (pw_orM (pt_cmpR op_notN (meth_weak (pe_meth0 (pe_c (pv 2)) T.k_Meter.cl T.p_Meter_last.me G_Meter_last (hr.mono (by decide)) T.p_Meter_last.b .nil pass0)) pe_non (nomark _)) (pw_or1 (pt_cmpR op_notBl (meth_weak (pe_meth0 (pe_c (pv 2)) T.k_Meter.cl T.p_Meter_is_settled.me G_Meter_is_settled (hr.mono (by decide)) T.p_Meter_is_settled.b .nil pass0)) pe_bl (nomark _))))) (pss_one (ps_ret pe_bl)) pss_nil) (pss_cons (ps_forR1 PassesOwn.never rfl rfl T.n_range (pa_cons (pe_op op_addM pe_int (pe_call G_u_law_next (hr.mono (by decide)) rfl T.p_u_law_next.m T.p_u_law_next.F.kp T.p_u_law_next.b .nil pass0 (pa_cons (pv 1) (pa_cons pe_int pa_nil)))) pa_nil) (pg_name (i := 11) sc_law.nd rfl (Or.inl rfl)) (pss_cons (ps_set (i := 12) sc_law.nd rfl (Or.inl rfl) (pe_call G_u_law_next (hr.mono (by decide)) rfl T.p_u_law_next.m T.p_u_law_next.F.kp T.p_u_law_next.b .nil pass0 (pa_cons (pv 1) (pa_cons pe_int pa_nil)))) (pss_cons (ps_ifJ (pt_cmpR op_ltM (pv 12) pe_int (nomark _)) (pss_cons (ps_set (i := 13) sc_law.nd rfl (Or.inl rfl) (pe_call G_u_law_next (hr.mono (by decide)) rfl T.p_u_law_next.m T.p_u_law_next.F.kp T.p_u_law_next.b .nil pass0 (pa_cons (pv 1) (pa_cons pe_int pa_nil)))) (pss_cons (ps_set (i := 14) sc_law.nd rfl (Or.inl rfl) (pe_call G_u_law_next (hr.mono (by decide)) rfl T.p_u_law_next.m T.p_u_law_next.F.kp T.p_u_law_next.b .nil pass0 (pa_cons (pv 1) (pa_cons pe_int pa_nil)))) (pss_cons (ps_set (i := 15) sc_law.nd rfl (Or.inl rfl) (pe_ix ix_listM (pe_lstM (pa_cons (pe_op op_addM pe_int (pe_call G_u_law_next (hr.mono (by decide)) rfl T.p_u_law_next.m T.p_u_law_next.F.kp T.p_u_law_next.b .nil pass0 (pa_cons (pv 1) (pa_cons pe_int pa_nil)))) (pa_cons (pe_op op_powM pe_int pe_int) pa_nil))) (pe_callTy call_int1 (by rfl) T.n_int (by decide +kernel) (pa_cons (pe_cmpR op_eq (pe_call G_u_law_next (hr.mono (by decide)) rfl T.p_u_law_next.m T.p_u_law_next.F.kp T.p_u_law_next.b .nil pass0 (pa_cons (pv 1) (pa_cons pe_int pa_nil))) pe_int (nomark _)) pa_nil)) (fun _ _ => rfl))) (pss_cons (ps_expr (meth_weak (pe_meth (pe_c (pv 2)) T.k_Meter.cl T.p_Meter_add.me G_Meter_add (hr.mono (by decide)) T.p_Meter_add.b .nil pass0 (pa_cons (pv 13) (pa_cons (pv 14) (pa_cons (pv 15) pa_nil)))))) (pss_cons (ps_dputTM (hu_of hr) (pv 4) (pe_tupM (pa_cons (pv 13) (pa_cons (pv 14) pa_nil))) (pe_op op_addM (pe_dget2TM (hu_of hr) (pv 4) (pe_tupM (pa_cons (pv 13) (pa_cons (pv 14) pa_nil))) pe_int) (pv 15))) (pss_one (ps_set (i := 9) sc_law.nd rfl (Or.inl rfl) pe_bl))))))) (pss_one (ps_ifM (pt_cmpR op_eq (pv 12) pe_int (nomark _)) (pss_cons (ps_set (i := 16) sc_law.nd rfl (Or.inl rfl) (meth_weak (pe_meth0 (pe_c (pv 2)) T.k_Meter.cl T.p_Meter_write.me G_Meter_write (hr.mono (by decide)) T.p_Meter_write.b .nil pass0))) (pss_cons (ps_ifM (PW.pt (pw_orM (pt_not (pt_val (pe_callB call_isiM (by rfl) T.n_isinstance (by decide +kernel) (pa_cons (pv 16) (pa_cons (pe_bltn (v := .ty "tuple") rfl T.n_tuple (by decide +kernel) rfl) pa_nil))))) (pw_orM (pt_cmpR (op_neDM hr.units) (pv 16) (pe_tupM (pa_cons (pe_op op_addM (pe_callB call_lenM (by rfl) T.n_len PySem.boot_len (pa_cons (pv 5) pa_nil)) pe_int) (pa_cons (pe_call G_u_law_rows (hr.mono (by decide)) rfl T.p_u_law_rows.m T.p_u_law_rows.F.kp T.p_u_law_rows.b .nil pass0 (pa_cons (pv 4) pa_nil)) pa_nil))) (nomark _)) (pw_or1 (pt_cmpR (op_neDM hr.units) (meth_weak (pe_meth0 (pe_c (pv 2)) T.k_Meter.cl T.p_Meter_last.me G_Meter_last (hr.mono (by decide)) T.p_Meter_last.b .nil pass0)) (pv 16) (nomark _)))))) (pss_one (ps_ret pe_bl)) pss_nil) (pss_cons (ps_expr (pe_app (pv 5) (pv 16))) (pss_one (ps_set (i := 9) sc_law.nd rfl (Or.inl rfl) pe_bl))))) (pss_one (ps_ifM (PW.pt (pw_andM (pt_cmpR op_ltM (pv 12) pe_int (nomark _)) (pw_and1 (pt_cmpR (op_neDM hr.units) (pv 5) (pe_lstM pa_nil) (nomark _))))) (pss_cons (ps_set (i := 16) sc_law.nd rfl (Or.inl rfl) (pe_ix ix_listM (pv 5) (pe_op op_subM (pe_un un_neg pe_int) (pe_call G_u_law_next (hr.mono (by decide)) rfl T.p_u_law_next.m T.p_u_law_next.F.kp T.p_u_law_next.b .nil pass0 (pa_cons (pv 1) (pa_cons (pe_callB (call_min2 rfl) (by rfl) T.n_min (by decide +kernel) (pa_cons (pe_callB call_lenM (by rfl) T.n_len PySem.boot_len (pa_cons (pv 5) pa_nil)) (pa_cons (pe_op op_addM pe_int (pe_call G_u_law_next (hr.mono (by decide)) rfl T.p_u_law_next.m T.p_u_law_next.F.kp T.p_u_law_next.b .nil pass0 (pa_cons (pv 1) (pa_cons pe_int pa_nil)))) pa_nil))) pa_nil)))) (fun _ _ => rfl))) (pss_cons (ps_set (i := 7) sc_law.nd rfl (Or.inl rfl) (pe_callB (call_max2 rfl) (by rfl) T.n_max (by decide +kernel) (pa_cons (pv 7) (pa_cons (pe_ix ix_tupM (pv 16) pe_int (fun _ _ => rfl)) pa_nil)))) (pss_cons (ps_set (i := 17) sc_law.nd rfl (Or.inl rfl) (meth_weak (pe_meth (pe_c (pv 3)) T.k_Biller.cl T.p_Biller_take.me G_Biller_take (hr.mono (by decide)) T.p_Biller_take.b .nil pass0 (pa_cons (pv 16) pa_nil)))) (pss_cons (ps_ifM (PW.pt (pw_orM (pt_cmpR op_ne (pv 17) (pv 7) (nomark _)) (pw_or1 (pt_val (pe_callB call_isiM (by rfl) T.n_isinstance (by decide +kernel) (pa_cons (pv 17) (pa_cons (pe_bltn (v := .ty "bool") rfl T.n_bool (by decide +kernel) rfl) pa_nil))))))) (pss_one (ps_ret pe_bl)) pss_nil) (pss_one (ps_expr (pe_app (pv 6) (pv 17)))))))) (pss_one (ps_ifM (PW.pt (pw_andM (pt_cmpR op_eq (pv 12) pe_int (nomark _)) (pw_and1 (pt_cmpR (op_neDM hr.units) (pv 6) (pe_lstM pa_nil) (nomark _))))) (pss_cons (ps_set (i := 17) sc_law.nd rfl (Or.inl rfl) (pe_ix ix_listM (pv 6) (pe_call G_u_law_next (hr.mono (by decide)) rfl T.p_u_law_next.m T.p_u_law_next.F.kp T.p_u_law_next.b .nil pass0 (pa_cons (pv 1) (pa_cons (pe_callB call_lenM (by rfl) T.n_len PySem.boot_len (pa_cons (pv 6) pa_nil)) pa_nil))) (fun _ _ => rfl))) (pss_cons (ps_set (i := 8) sc_law.nd rfl (Or.inl rfl) (pe_callB (call_max2 rfl) (by rfl) T.n_max (by decide +kernel) (pa_cons (pv 8) (pa_cons (pv 17) pa_nil)))) (pss_one (ps_expr (meth_weak (pe_meth (pe_c (pv 2)) T.k_Meter.cl T.p_Meter_take.me G_Meter_take (hr.mono (by decide)) T.p_Meter_take.b .nil pass0 (pa_cons (pv 17) pa_nil))))))) pss_nil))))))) (pss_cons (ps_set (i := 18) sc_law.nd rfl (Or.inl rfl) (meth_weak (pe_meth0 (pe_c (pv 2)) T.k_Meter.cl T.p_Meter_is_settled.me G_Meter_is_settled (hr.mono (by decide)) T.p_Meter_is_settled.b .nil pass0))) (pss_cons (ps_ifM (PW.pt (pw_orM (pt_not (pt_val (pe_callB call_isiM (by rfl) T.n_isinstance (by decide +kernel) (pa_cons (pv 18) (pa_cons (pe_bltn (v := .ty "bool") rfl T.n_bool (by decide +kernel) rfl) pa_nil))))) (pw_or1 (pt_cmpR op_ne (pv 18) (pe_say (pe_andM (pv 9) (pe_one (pe_cmpR op_eq (pv 8) (pe_callB call_lenM (by rfl) T.n_len PySem.boot_len (pa_cons (pv 5) pa_nil)) (nomark _))))) (nomark _))))) (pss_one (ps_ret pe_bl)) pss_nil) (pss_cons (ps_ifM (pt_not (pt_val (pe_call G_u_law_bills (hr.mono (by decide)) rfl T.p_u_law_bills.m T.p_u_law_bills.F.kp T.p_u_law_bills.b .nil pass0 (pa_cons (pv 3) (pa_cons (pv 5) (pa_cons (pv 7) (pa_cons (pv 4) (pa_cons (pv 10) pa_nil)))))))) (pss_one (ps_ret pe_bl)) pss_nil) (pss_one (ps_forKT PassesOwn.never rfl (pv 4) (pg_name (i := 19) sc_law.nd rfl (Or.inl rfl)) (pss_one (ps_ifM (PW.pt (pw_orM (pt_cmpR op_ne (meth_weak (pe_meth (pe_c (pv 2)) T.k_Meter.cl T.p_Meter_metered.me G_Meter_metered (hr.mono (by decide)) T.p_Meter_metered.b .nil pass0 (pa_cons (pe_ix ix_tupM (pv 19) pe_int (fun _ _ => rfl)) (pa_cons (pe_ix ix_tupM (pv 19) pe_int (fun _ _ => rfl)) pa_nil)))) (pe_dgetTM (hu_of hr) (pv 4) (pv 19)) (nomark _)) (pw_or1 (PW.pt (pw_andM (pt_val (pv 18)) (pw_and1 (pt_cmpR op_ne (meth_weak (pe_meth (pe_c (pv 3)) T.k_Biller.cl T.p_Biller_bill.me G_Biller_bill (hr.mono (by decide)) T.p_Biller_bill.b .nil pass0 (pa_cons (pe_ix ix_tupM (pv 19) pe_int (fun _ _ => rfl)) (pa_cons (pe_ix ix_tupM (pv 19) pe_int (fun _ _ => rfl)) pa_nil)))) (pe_dgetTM (hu_of hr) (pv 4) (pv 19)) (nomark _)))))))) (pss_one (ps_ret pe_bl)) pss_nil)))))))))) (pss_one (ps_ret (pe_cmpR op_eq (meth_weak (pe_meth (pe_c (pv 2)) T.k_Meter.cl T.p_Meter_metered.me G_Meter_metered (hr.mono (by decide)) T.p_Meter_metered.b .nil pass0 (pa_cons pe_int (pa_cons pe_int pa_nil)))) pe_int (nomark _)))))))))))))))), ?_⟩
    (repeat walk_at "rd")
    refine rd_list hS ?_
    intro a2 H1 n1 s1 e1
    obtain ⟨B1, sB1, hB1, _, w1⟩ := (Own.mk0 (H := H)).ro n1 s1 e1
    (repeat walk_at "rd")
    intro t H2 n2 s2 e2
    have w2 : Own H H [] B1 [(t, tapeL a2 0 0 7)] H2 := w1.add n2 s2 e2
    have ok2 : TapeOk2 ns 0 0 7 := ⟨⟨by decide, by omega⟩, by decide, ⟨by decide, by decide⟩⟩
    (repeat walk_at "rd")
    intro p dx nx ndx nxd
    have w3 : Own H H [] B1 [(p, .ins T.C_Meter dx []), (t, tapeL a2 0 0 7)] _ := w2.add nx ((same_upd (o := .own p) ndx).trans (same_upd (by rw [upd_ne (Ne.symm nxd)]; exact nx))) (upd_same (o := .ins T.C_Meter dx []))
    refine op_Meter___init__ ⟨p, dx, B1, rfl, w3.cellsL (lc := [(p, .ins T.C_Meter dx [])]), fun A H5 eA w4' => ?_⟩
    have w4 : Own H H [] B1 (mcells T.C_Meter A ⟨[], .non, 0, 0, false⟩ ++ [(t, tapeL a2 0 0 7)]) H5 := w3.call (lc := [(p, .ins T.C_Meter dx [])]) w4'
    refine ⟨rfl, ?_⟩
    subst eA
    (repeat walk_at "rd")
    intro p2 dx2 nx2 ndx2 nxd2
    have w5 : Own H H [] B1 ((p2, .ins T.C_Biller dx2 []) :: (mcells T.C_Meter A ⟨[], .non, 0, 0, false⟩ ++ [(t, tapeL a2 0 0 7)])) _ := w4.add nx2 ((same_upd (o := .own p2) ndx2).trans (same_upd (by rw [upd_ne (Ne.symm nxd2)]; exact nx2))) (upd_same (o := .ins T.C_Biller dx2 []))
    refine op_Biller___init__ ⟨p2, dx2, B1, rfl, w5.cellsL (lc := [(p2, .ins T.C_Biller dx2 [])]), fun Ab B6 H6 bd eAb w6' hbd => ?_⟩
    have w6 : Own H H [] B6 (bcells T.C_Biller Ab ⟨0, bd, []⟩ ++ (mcells T.C_Meter A ⟨[], .non, 0, 0, false⟩ ++ [(t, tapeL a2 0 0 7)])) H6 := w5.call (lc := [(p2, .ins T.C_Biller dx2 [])]) w6'
    have hT6 := w6'.grow _ _ hB1
    refine ⟨rfl, ?_⟩
    subst eAb
    (repeat walk_at "rd")
    intro sd nsd
    have w7 := w6.add nsd (same_upd (o := .dT []) nsd) upd_same
    (repeat walk_at "rd")
    intro lA H8 n8 s8 e8
    have w8 := w7.add n8 s8 e8
    (repeat walk_at "rd")
    intro anA H9 n9 s9 e9
    have w9 := w8.add n9 s9 e9
    (repeat walk_at "rd")
    intro bf nbf
    have w10 := w9.add nbf (same_upd (o := .dT []) nbf) upd_same
    have w11 : Own H H [] B6 (l39 T.C_Meter T.C_Biller t a2 lA anA sd bf A ⟨[], .non, 0, 0, false⟩ Ab ⟨0, bd, []⟩ [] [] [] 0 0 7) _ := w10.reorder [7, 5, 6, 0, 3, 2, 4, 1]
    generalize upd H9 bf (.dT []) = H10 at w11 ⊢
    clear w1 w2 w3 w4 w4' w5 w6 w6' w7 w8 w9 w10 n1 s1 e1 n2 s2 e2 nx ndx nxd nx2 ndx2 nxd2 nsd n8 s8 e8 n9 s9 e9 nbf
    refine frG (σ' := [some (.ref a), some (.ref t), some (.ref A.p), some (.ref Ab.p), some (.ref sd), some (.ref lA), some (.ref anA), some (.int 0), some (.int 0), some (.bl true), some (.ref bf), none, none, none, none, none, none, none, none, none]) rfl ?_
    have hA := w11.mem (.tail _ (.head _))
    (repeat walk_at "rd")
    refine op_Meter_last ⟨A, ⟨[], .non, 0, 0, false⟩, rfl, hA, ?_⟩
    (repeat walk_at "rd")
    refine op_Meter_is_settled ⟨A, ⟨[], .non, 0, 0, false⟩, rfl, hA, .inl ⟨rfl, rfl⟩, ?_⟩
    (repeat walk_at "rd")
    refine br_nf rfl ?_
    (repeat walk_at "rd")
    refine rd_forR1 ?_
    (repeat walk_at "rd")
    refine next_tp ⟨0, 0, 7, ok2, w11.mem (.head _)⟩ (sq_of (w11.imm _ _ hT6)) ⟨by decide, by decide⟩ fun x12 H12 hx0 hx1 tp12 => ?_
    obtain ⟨i12, r12, z12, ok12, w12⟩ := w11.tape tp12
    (repeat walk_at "rd")
    have iv0 : I39 0 [] ⟨[], .non, 0, 0, false⟩ ⟨0, bd, []⟩ [] [] := ⟨.nil, Nat.le_refl _, rfl, fun R hR => (by cases hR), fun i j R R' _ h => (by cases h), fun p => Int.le_refl _, fun _ => .inl ⟨rfl, rfl⟩, ⟨Int.le_refl _, Int.le_refl _⟩, fun _ => rfl, fun z => (by have z : (0 : Int) < 0 := z; omega), fun a ha => (by cases ha), ⟨Int.le_refl _, Int.le_refl _⟩, Nat.le_refl _, fun p => Int.le_refl _, Nat.le_refl _, Nat.le_refl _⟩
    refine ⟨1 + x12, fun k σ H' => Stop (∃ (B : Hp) (s' : MtS) (b' : BlS) (ls : List Addr) (Ls : List (List PK)) (an : List Int) (F : List PK) (i r z : Int) (y11 y12 y13 y14 y15 y16 y17 y18 y19 : Option V), IV39 T.C_Meter T.C_Biller t a2 lA anA sd bf ns k H B A s' Ab b' ls Ls an F i r z H' ∧
      σ = [some (.ref a), some (.ref t), some (.ref A.p), some (.ref Ab.p), some (.ref sd), some (.ref lA), some (.ref anA), some (.int b'.sr), some (.int s'.ans), some (.bl (!s'.more)), some (.ref bf), y11, y12, y13, y14, y15, y16, y17, y18, y19]), rfl, ⟨by omega, by omega⟩, .a ⟨B6, ⟨[], .non, 0, 0, false⟩, ⟨0, bd, []⟩, [], [], [], [], i12, r12, z12, _, _, _, _, _, _, _, _, _, ⟨w12, ok12, iv0, ⟨rfl, fun i l R h => (by cases h)⟩, .inl ⟨rfl, rfl⟩, hbd, hT6, fun q hq => (by cases hq)⟩, rfl⟩, fun k σ' H' hk wq => ?_, fun σ' H' wq => ?_⟩
    · obtain ⟨B, s', b', ls, Ls, an, F, i, r, z, y11, y12, y13, y14, y15, y16, y17, y18, y19, ⟨w0, tk, iv, hla, hlv, hb, hT, hkb⟩, rfl⟩ := wq.un
      clear wq w11 w12 tp12 iv0
      have hk60 : k < 60 := by omega
      refine frG (σ' := [some (.ref a), some (.ref t), some (.ref A.p), some (.ref Ab.p), some (.ref sd), some (.ref lA), some (.ref anA), some (.int b'.sr), some (.int s'.ans), some (.bl (!s'.more)), some (.ref bf), some (.int (k : Nat)), y12, y13, y14, y15, y16, y17, y18, y19]) rfl ?_
      (repeat walk_at "rd")
      refine next_tp ⟨i, r, z, tk, w0.mem (.head _)⟩ (sq_of (w0.imm _ _ hT)) ⟨by decide, by decide⟩ fun kd H13 hk0 hk1 tp13 => ?_
      obtain ⟨i13, r13, z13, ok13, w13⟩ := w0.tape tp13
      refine frG (σ' := [some (.ref a), some (.ref t), some (.ref A.p), some (.ref Ab.p), some (.ref sd), some (.ref lA), some (.ref anA), some (.int b'.sr), some (.int s'.ans), some (.bl (!s'.more)), some (.ref bf), some (.int (k : Nat)), some (.int kd), y13, y14, y15, y16, y17, y18, y19]) rfl ?_
      clear w0 tp13 tk
      have hll := iv.ll
      have hal := iv.al
      have hel := iv.el
      have hfl := iv.fl
      have hnn := iv.nn
      have hbr := iv.br
      (repeat walk_at "rd")
      refine rd_ifJ (fun σ' H' => Stop (∃ (B' : Hp) (s2 : MtS) (b2 : BlS) (ls2 : List Addr) (Ls2 : List (List PK)) (an2 : List Int) (i2 r2 z2 : Int) (x13 x14 x15 x16 x17 : Option V), IV39 T.C_Meter T.C_Biller t a2 lA anA sd bf ns (k + 1) H B' A s2 Ab b2 ls2 Ls2 an2 F i2 r2 z2 H' ∧
        σ' = [some (.ref a), some (.ref t), some (.ref A.p), some (.ref Ab.p), some (.ref sd), some (.ref lA), some (.ref anA), some (.int b2.sr), some (.int s2.ans), some (.bl (!s2.more)), some (.ref bf), some (.int (k : Nat)), some (.int kd), x13, x14, x15, x16, x17, y18, y19])) (fun h => ?_) (fun h => ?_) (fun σ' H' wq => ?_)
      · (repeat walk_at "rd")
        refine next_tp ⟨i13, r13, z13, ok13, w13.mem (.head _)⟩ (sq_of (w13.imm _ _ hT)) ⟨by decide, by decide⟩ fun x14 H14 hx140 hx141 tp14 => ?_
        obtain ⟨i14, r14, z14, ok14, w14⟩ := w13.tape tp14
        (repeat walk_at "rd")
        refine next_tp ⟨i14, r14, z14, ok14, w14.mem (.head _)⟩ (sq_of (w14.imm _ _ hT)) ⟨by decide, by decide⟩ fun x15 H15 hx150 hx151 tp15 => ?_
        obtain ⟨i15, r15, z15, ok15, w15⟩ := w14.tape tp15
        (repeat walk_at "rd")
        refine next_tp ⟨i15, r15, z15, ok15, w15.mem (.head _)⟩ (sq_of (w15.imm _ _ hT)) ⟨by decide, by decide⟩ fun x16 H16 hx160 hx161 tp16 => ?_
        obtain ⟨i16, r16, z16, ok16, w16⟩ := w15.tape tp16
        (repeat walk_at "rd")
        intro u17 H17 n17 s17 e17
        have w17 := w16.more s17
        (repeat walk_at "rd")
        refine next_tp ⟨i16, r16, z16, ok16, w17.mem (.head _)⟩ (sq_of (w17.imm _ _ hT)) ⟨by decide, by decide⟩ fun x18 H18 hx180 hx181 tp18 => ?_
        have hu17 : u17 ≠ t := fun z => by
          rw [z, w16.mem (.head _)] at n17
          cases n17
        have e18 := tp18.but _ _ hu17 e17
        obtain ⟨i18, r18, z18, ok18, w18⟩ := w17.tape tp18
        (repeat walk_at "rd")
        refine rd_ixL (sq_of e18) (at2z (decide (V.int x18 = V.int 0))) ?_
        have hsz : 0 < (if decide (V.int x18 = V.int 0) = true then (10 : Int) ^ Int.toNat 20 else 1 + x16) := by
          split
          · decide
          · omega
        generalize (if decide (V.int x18 = V.int 0) = true then (10 : Int) ^ Int.toNat 20 else 1 + x16) = size at hsz ⊢
        (repeat walk_at "rd")
        have w19 := w18.reorder [1, 2, 0, 3, 4, 5, 6, 7]
        refine op_Meter_add ⟨A, s', x14, x15, size, B, rfl, w19.cellsL (lc := mcells T.C_Meter A s'), hsz, by omega, fun B20 H20 w20' => ?_⟩
        have w20 := ((w19.call (lc := mcells T.C_Meter A s') w20').reorder [2, 0, 1, 3, 4, 5, 6, 7])
        have gB := w20'.grow
        clear w19
        (repeat walk_at "rd")
        refine rd_isDT (.inl (w20.mem (.tail _ (.tail _ (.tail _ (.tail _ (.head _))))))) ?_
        (repeat walk_at "rd")
        intro t21 H21 n21 s21 e21
        have w21 := w20.more s21
        refine rd_dget2T (p := (x14, x15)) (.inl (w21.mem (.tail _ (.tail _ (.tail _ (.tail _ (.head _))))))) e21 ?_
        (repeat walk_at "rd")
        intro t22 H22 n22 s22 e22
        have w22 := w21.more s22
        refine rd_dputT (p := (x14, x15)) (w22.mem (.tail _ (.tail _ (.tail _ (.tail _ (.head _)))))) e22 (by omega) ?_
        have w23 := w22.set 4 rfl (.dT ((tput s'.E (x14, x15) ((tget s'.E (x14, x15)).getD 0 + size)).map kvT))
        (repeat walk_at "rd")
        exact .a ⟨B20, { s' with E := tput s'.E (x14, x15) ((tget s'.E (x14, x15)).getD 0 + size), more := true }, b', ls, Ls, an, i18, r18, z18, _, _, _, _, _, ⟨w23, ok18, iv.add hsz, hla.mono gB, hlv.mono gB, gB _ _ hb, gB _ _ hT, fun q hq => by
          rcases tput_keys hq with hq | hq
          · exact hkb q hq
          · rw [hq]
            exact ⟨hx140, hx141⟩⟩, rfl⟩
      · (repeat walk_at "rd")
        refine br_eby (fun h2 => ?_) (fun h2 => ?_)
        · (repeat walk_at "rd")
          have w14 := w13.reorder [1, 2, 0, 3, 4, 5, 6, 7]
          refine op_Meter_write ⟨A, s', B, rfl, w14.cellsL (lc := mcells T.C_Meter A s'), hlv, iv.nd, by omega, fun B15 H15 l R w15' hlt hro => ?_⟩
          have w15 := ((w14.call (lc := mcells T.C_Meter A s') w15').reorder [2, 0, 1, 3, 4, 5, 6, 7])
          have gB := w15'.grow
          clear w14 w13
          (repeat walk_at "rd")
          obtain ⟨rt, hl1, hl2⟩ := hlt.ex
          refine rd_isiTT (w15.imm _ _ hl1) ?_
          (repeat walk_at "rd")
          refine op_u_law_rows ⟨sd, s'.E, rfl, w15.mem (.tail _ (.tail _ (.tail _ (.tail _ (.head _))))), by omega, fun rt2 H16 R2 n16 s16 hrt2 hro2 => ?_⟩
          obtain rfl := hro.uniq hro2
          have w16 := w15.more s16
          (repeat walk_at "rd")
          intro tt H17 n17 s17 e17
          have w17 := w16.more s17
          have en : s'.n + 1 = (((ls.map V.ref).length : Nat) : Int) + 1 := by rw [List.length_map, hla.ln, hnn]
          have dL : Dp K H17 (.ref l) (ltD (s'.n + 1) R) := (hlt.mono w17.imm).dp
          have dT : Dp K H17 (.ref tt) (ltD (s'.n + 1) R) := by
            rw [en]
            exact .tup (st_of e17) (.cons (.int _) (.cons (hrt2.mono s17).dp .nil))
          refine rd_neS (n := 3) (ltD (s'.n + 1) R) dL dT (sh_lt _ _) ?_
          have hA17 := w17.mem (.tail _ (.head _))
          (repeat walk_at "rd")
          refine op_Meter_last ⟨A, { s' with lv := .ref l, n := s'.n + 1, more := false }, rfl, hA17, ?_⟩
          (repeat walk_at "rd")
          refine rd_neS (n := 3) (ltD (s'.n + 1) R) dL dL (sh_lt _ _) ?_
          (repeat walk_at "rd")
          refine rd_app (w17.mem (.tail _ (.tail _ (.tail _ (.tail _ (.tail _ (.head _))))))) (by rw [List.length_map, hla.ln]; omega) ?_
          have e18 : ls.map V.ref ++ [V.ref l] = (ls ++ [l]).map V.ref := by
            rw [List.map_append]
            rfl
          rw [e18]
          have w18 := w17.set 5 rfl (.lst ((ls ++ [l]).map V.ref))
          (repeat walk_at "rd")
          exact .a ⟨B15, { s' with lv := .ref l, n := s'.n + 1, more := false }, b', ls ++ [l], Ls ++ [R], an, i13, r13, z13, _, _, _, _, _, ⟨w18, ok13, iv.write (by omega) hro l, (hla.mono gB).snoc (by rw [← hnn]; exact hlt), .inr ⟨l, rt, rfl, hl1⟩, gB _ _ hb, gB _ _ hT, hkb⟩, rfl⟩
        (repeat walk_at "rd")
        refine br_by (fun h3 => ?_) (fun h3 => ?_)
        · (repeat walk_at "rd")
          intro u14 H14 n14 s14 e14
          have w14 := w13.more s14
          obtain ⟨ds, hds1, hds2, hds3⟩ := lets_dp (K := K) w14.imm (ls := ls) (Ls := Ls) 0 hla.ln (fun i l R h1 h2 => by
            have z := hla.at' i l R h1 h2
            have ez : (i : Int) + ((0 : Nat) : Int) + 1 = (i : Int) + 1 := by omega
            rw [ez]
            exact z)
          refine rd_neA (n := 4) (m := 1) (.list ds) (.list []) (.lst (sq_of (w14.mem (.tail _ (.tail _ (.tail _ (.tail _ (.tail _ (.head _)))))))) hds2) (.lst (sq_of e14) .nil) (sh_lst hds3) (sh_lst sh_nil) ?_
          rw [eqv_nil]
          (repeat walk_at "rd")
          refine br_nby (fun h4 => ?_) (fun h4 => ?_)
          · have hl1 : 1 ≤ Ls.length := by
              rw [← hds1]
              exact List.length_pos_iff.mpr h4
            have hlsl := hla.ln
            (repeat walk_at "rd")
            refine next_tp ⟨i13, r13, z13, ok13, w14.mem (.head _)⟩ (sq_of (w14.imm _ _ hT)) ⟨by decide, by decide⟩ fun x15 H15 hx150 hx151 tp15 => ?_
            obtain ⟨i15, r15, z15, ok15, w15⟩ := w14.tape tp15
            (repeat walk_at "rd")
            refine ⟨_, _, rfl, ?_⟩
            have hm : 1 ≤ (if 1 + x15 < (((ls.map V.ref).length : Nat) : Int) then 1 + x15 else (((ls.map V.ref).length : Nat) : Int)) ∧ (if 1 + x15 < (((ls.map V.ref).length : Nat) : Int) then 1 + x15 else (((ls.map V.ref).length : Nat) : Int)) ≤ (ls.length : Int) := by
              rw [List.length_map]
              split <;> omega
            generalize (if 1 + x15 < (((ls.map V.ref).length : Nat) : Int) then 1 + x15 else (((ls.map V.ref).length : Nat) : Int)) = m at hm ⊢
            (repeat walk_at "rd")
            refine next_tp ⟨i15, r15, z15, ok15, w15.mem (.head _)⟩ (sq_of (w15.imm _ _ hT)) ⟨hm.1, by omega⟩ fun x16 H16 hx160 hx161 tp16 => ?_
            obtain ⟨i16, r16, z16, ok16, w16⟩ := w15.tape tp16
            have hjl : ((ls.length : Int) - 1 - x16).toNat < Ls.length := by omega
            have hjs : ((ls.length : Int) - 1 - x16).toNat < ls.length := by omega
            obtain ⟨j, hjj⟩ : ∃ j : Nat, j = ((ls.length : Int) - 1 - x16).toNat := ⟨_, rfl⟩
            rw [← hjj] at hjl hjs
            obtain ⟨R, eR⟩ : ∃ R, Ls[j]? = some R := ⟨_, List.getElem?_eq_getElem hjl⟩
            obtain ⟨l, el⟩ : ∃ l, ls[j]? = some l := ⟨_, List.getElem?_eq_getElem hjs⟩
            have hlt := hla.at' j _ _ el eR
            obtain ⟨hnd, hRl, _, _⟩ := iv.rs _ (List.mem_of_getElem? eR)
            obtain ⟨rt, hl2, hl3⟩ := hlt.ex
            (repeat walk_at "rd")
            refine rd_ixL (sq_of (w16.mem (.tail _ (.tail _ (.tail _ (.tail _ (.tail _ (.head _)))))))) (at_back (j := j) hx160 (by rw [List.length_map]; omega) (by rw [List.getElem?_map, el]; rfl)) ?_
            (repeat walk_at "rd")
            refine rd_ixT (st_of (w16.imm _ _ hl2)) rfl ?_
            (repeat walk_at "rd")
            refine ⟨_, _, rfl, ?_⟩
            have emx : (if (j : Int) + 1 > b'.sr then (j : Int) + 1 else b'.sr) = max b'.sr ((j : Int) + 1) := by
              split <;> omega
            rw [emx]
            (repeat walk_at "rd")
            have w17 := w16.reorder [6, 0, 1, 2, 3, 4, 5, 7]
            refine op_Biller_take ⟨Ab, b', l, (j : Int) + 1, R, B, rfl, w17.cellsL (lc := bcells T.C_Biller Ab b'), hlt, hnd, by omega, fun hle H18 w18' => ?_, fun hgt B18 H18 bd18 w18' hb18 => ?_⟩
            · have w18 := ((w17.call (lc := bcells T.C_Biller Ab b') w18').reorder [1, 2, 3, 4, 5, 6, 0, 7])
              have em2 : max b'.sr ((j : Int) + 1) = b'.sr := by omega
              rw [em2]
              (repeat walk_at "rd")
              refine br_ni rfl ?_
              (repeat walk_at "rd")
              refine rd_app (w18.mem (.tail _ (.tail _ (.tail _ (.tail _ (.tail _ (.tail _ (.tail _ (.head _))))))))) (by rw [List.length_map]; omega) ?_
              have e19 : an.map V.int ++ [V.int b'.sr] = (an ++ [b'.sr]).map V.int := by
                rw [List.map_append]
                rfl
              rw [e19]
              have w19 := w18.set 7 rfl (.lst ((an ++ [b'.sr]).map V.int))
              exact .a ⟨B, s', b', ls, Ls, an ++ [b'.sr], i16, r16, z16, _, _, _, _, _, ⟨w19, ok16, iv.again, hla, hlv, hb, hT, hkb⟩, rfl⟩
            · have w18 := ((w17.call (lc := bcells T.C_Biller Ab b') w18').reorder [1, 2, 3, 4, 5, 6, 0, 7])
              have gB := w18'.grow
              have em2 : max b'.sr ((j : Int) + 1) = (j : Int) + 1 := by omega
              rw [em2]
              (repeat walk_at "rd")
              refine br_ni rfl ?_
              (repeat walk_at "rd")
              refine rd_app (w18.mem (.tail _ (.tail _ (.tail _ (.tail _ (.tail _ (.tail _ (.tail _ (.head _))))))))) (by rw [List.length_map]; omega) ?_
              have e19 : an.map V.int ++ [V.int ((j : Int) + 1)] = (an ++ [(j : Int) + 1]).map V.int := by
                rw [List.map_append]
                rfl
              rw [e19]
              have w19 := w18.set 7 rfl (.lst ((an ++ [(j : Int) + 1]).map V.int))
              exact .a ⟨B18, s', ⟨(j : Int) + 1, bd18, R⟩, ls, Ls, an ++ [(j : Int) + 1], i16, r16, z16, _, _, _, _, _, ⟨w19, ok16, iv.came ⟨by omega, by omega⟩ (by rw [← eR]; congr 1; omega) hgt bd18, hla.mono gB, hlv.mono gB, hb18, gB _ _ hT, hkb⟩, rfl⟩
          · (repeat walk_at "rd")
            refine br_eif (by omega) ?_
            (repeat walk_at "rd")
            exact .a ⟨B, s', b', ls, Ls, an, i13, r13, z13, _, _, _, _, _, ⟨w14, ok13, iv.idle, hla, hlv, hb, hT, hkb⟩, rfl⟩
        · (repeat walk_at "rd")
          refine br_ei (by omega) ?_
          (repeat walk_at "rd")
          intro u14 H14 n14 s14 e14
          have w14 := w13.more s14
          refine rd_neI (ms := []) (sq_of (w14.mem (.tail _ (.tail _ (.tail _ (.tail _ (.tail _ (.tail _ (.tail _ (.head _)))))))))) (sq_of e14) ?_
          (repeat walk_at "rd")
          refine br_nby (fun h4 => ?_) (fun h4 => ?_)
          · have hal1 : 1 ≤ an.length := List.length_pos_iff.mpr h4
            (repeat walk_at "rd")
            refine next_tp ⟨i13, r13, z13, ok13, w14.mem (.head _)⟩ (sq_of (w14.imm _ _ hT)) ⟨by omega, by omega⟩ fun x15 H15 hx150 hx151 tp15 => ?_
            obtain ⟨i15, r15, z15, ok15, w15⟩ := w14.tape tp15
            have hxl : x15.toNat < an.length := by omega
            obtain ⟨v, ea⟩ : ∃ v, an[x15.toNat]? = some v := ⟨_, List.getElem?_eq_getElem hxl⟩
            (repeat walk_at "rd")
            refine rd_ixL (sq_of (w15.mem (.tail _ (.tail _ (.tail _ (.tail _ (.tail _ (.tail _ (.tail _ (.head _)))))))))) (at_of (j := x15.toNat) (by omega) (by rw [List.getElem?_map, ea]; rfl)) ?_
            (repeat walk_at "rd")
            refine ⟨_, _, rfl, ?_⟩
            have emx : (if v > s'.ans then v else s'.ans) = max s'.ans v := by
              split <;> omega
            rw [emx]
            (repeat walk_at "rd")
            have w16 := w15.reorder [1, 2, 0, 3, 4, 5, 6, 7]
            refine op_Meter_take ⟨A, s', v, B, rfl, w16.cellsL (lc := mcells T.C_Meter A s'), fun H17 w17' => ?_⟩
            have w17 := ((w16.call (lc := mcells T.C_Meter A s') w17').reorder [2, 0, 1, 3, 4, 5, 6, 7])
            (repeat walk_at "rd")
            exact .a ⟨B, { s' with ans := max s'.ans v }, b', ls, Ls, an, i15, r15, z15, _, _, _, _, _, ⟨w17, ok15, iv.told (List.mem_of_getElem? ea), hla, hlv, hb, hT, hkb⟩, rfl⟩
          · (repeat walk_at "rd")
            exact .a ⟨B, s', b', ls, Ls, an, i13, r13, z13, _, _, _, _, _, ⟨w14, ok13, iv.idle, hla, hlv, hb, hT, hkb⟩, rfl⟩
      obtain ⟨B2, s2, b2, ls2, Ls2, an2, i2, r2, z2, x13, x14, x15, x16, x17, ⟨w2, tk2, iv2, hla2, hlv2, hb2, hT2, hkb2⟩, rfl⟩ := wq.un
      clear wq w13 iv hla hlv hb hT hkb ok13 hll hal hel hnn hbr
      have hA2 := w2.mem (.tail _ (.head _))
      have hlsl := hla2.ln
      have hbr2 := iv2.br
      have hll2 := iv2.ll
      (repeat walk_at "rd")
      refine op_Meter_is_settled ⟨A, s2, rfl, hA2, hlv2.mono w2.imm, ?_⟩
      refine frG (σ' := [some (.ref a), some (.ref t), some (.ref A.p), some (.ref Ab.p), some (.ref sd), some (.ref lA), some (.ref anA), some (.int b2.sr), some (.int s2.ans), some (.bl (!s2.more)), some (.ref bf), some (.int (k : Nat)), some (.int kd), x13, x14, x15, x16, x17, some (.bl (decide (s2.ans = s2.n) && !s2.more)), y19]) rfl ?_
      (repeat walk_at "rd")
      refine rd_isiBB ?_
      (repeat walk_at "rd")
      refine rd_say (fun v H3 => v = .bl (decide (s2.ans = s2.n) && !s2.more) ∧ H' = H3) (say_and (d := decide (s2.ans = s2.n)) rfl rfl fun R rr => ?_) (fun v H3 p => ?_)
      · (repeat walk_at "rd")
        have ed : decide (V.int s2.ans = V.int (((ls2.map V.ref).length : Nat) : Int)) = decide (s2.ans = s2.n) := by
          rw [List.length_map, hlsl, ← iv2.nn]
          exact decide_eq_decide.mpr ⟨fun e => V.int.inj e, fun e => by rw [e]⟩
        rw [ed]
        exact rr
      obtain ⟨rfl, rfl⟩ := p
      (repeat walk_at "rd")
      refine br_nf rfl ?_
      (repeat walk_at "rd")
      have w3 := w2.reorder [3, 4, 5, 6, 0, 1, 2, 7]
      refine op_u_law_bills ⟨Ab, b2, lA, sd, bf, ls2, s2.E, F, B2, rfl, w3.cellsL (lc := lb39 T.C_Biller Ab b2 lA sd bf ls2 s2.E F), hb2, hbr2.1, iv2.b0, fun hz => ⟨by omega, ?_⟩, iv2.rnd, iv2.le, iv2.fF, by omega, by omega, fun F' H4 w4' hF' hFl => ?_⟩
      · have e1 := iv2.b1 hz
        have hi := (List.getElem?_eq_some_iff.mp e1).1
        have e2 := List.getElem?_eq_getElem (show (b2.sr - 1).toNat < ls2.length by omega)
        refine ⟨_, e2, ?_⟩
        have z := hla2.at' _ _ _ e2 e1
        have ez : (((b2.sr - 1).toNat : Nat) : Int) + 1 = b2.sr := by omega
        rw [ez] at z
        exact z
      have w4 : Own H H [] B2 (l39 T.C_Meter T.C_Biller t a2 lA anA sd bf A s2 Ab b2 ls2 an2 F' i2 r2 z2) H4 := ((w3.call (lc := lb39 T.C_Biller Ab b2 lA sd bf ls2 s2.E F) w4').reorder [4, 5, 6, 0, 1, 2, 3, 7])
      clear w2 w3 w4'
      (repeat walk_at "rd")
      refine rd_forKT sd s2.E (w4.mem (.tail _ (.tail _ (.tail _ (.tail _ (.head _)))))) fun od => ?_
      have w5 : Own H H [] B2 ((l39 T.C_Meter T.C_Biller t a2 lA anA sd bf A s2 Ab b2 ls2 an2 F' i2 r2 z2).set 4 (sd, .frz od (.dT (s2.E.map kvT)))) _ := w4.set 4 rfl (.frz od (.dT (s2.E.map kvT)))
      refine ⟨_, rfl, rfl, upd_same, ?_⟩
      refine ⟨fun j σ' H' => Stop (∃ x19, Own H H [] B2 ((l39 T.C_Meter T.C_Biller t a2 lA anA sd bf A s2 Ab b2 ls2 an2 F' i2 r2 z2).set 4 (sd, .frz od (.dT (s2.E.map kvT)))) H' ∧ σ' = [some (.ref a), some (.ref t), some (.ref A.p), some (.ref Ab.p), some (.ref sd), some (.ref lA), some (.ref anA), some (.int b2.sr), some (.int s2.ans), some (.bl (!s2.more)), some (.ref bf), some (.int (k : Nat)), some (.int kd), x13, x14, x15, x16, x17, some (.bl (decide (s2.ans = s2.n) && !s2.more)), x19]), .a ⟨_, w5, rfl⟩, fun j σ' H' hj p => ?_, fun j bk e σ' H' he hbk p => ?_, fun σ' H' p => ?_⟩
      · obtain ⟨x19, w6, rfl⟩ := p.un
        exact w6.mem (.tail _ (.tail _ (.tail _ (.tail _ (.head _)))))
      · obtain ⟨x19, w6, rfl⟩ := p.un
        clear p w4 w5
        have hv := tget_nd iv2.nd he
        have hv2 : (tget s2.E (e.1.1, e.1.2)).getD 0 = e.2 := by
          rw [show (e.1.1, e.1.2) = e.1 from rfl, hv]
          rfl
        have hA6 := w6.mem (.tail _ (.head _))
        have hB6 := w6.mem (.tail _ (.tail _ (.tail _ (.tail _ (.tail _ (.tail _ (.head _)))))))
        (repeat walk_at "rd")
        refine rd_ixT (st_of hbk) rfl ?_
        (repeat walk_at "rd")
        refine rd_ixT (st_of hbk) rfl ?_
        (repeat walk_at "rd")
        refine op_Meter_metered ⟨A, s2, e.1.1, e.1.2, rfl, hA6, w6.mem (.tail _ (.tail _ (.head _))), fun H7 s7 => ?_⟩
        have w7 := w6.more s7
        rw [hv2]
        (repeat walk_at "rd")
        refine rd_dgetT (p := e.1) (v := e.2) (.inr ⟨od, w7.mem (.tail _ (.tail _ (.tail _ (.tail _ (.head _)))))⟩) (s7 _ _ hbk) hv ?_
        (repeat walk_at "rd")
        refine br_ni rfl ?_
        (repeat walk_at "rd")
        refine br_b (fun hs => ?_) (fun hs => ?_)
        · rw [Bool.and_eq_true] at hs
          have hs1 := of_decide_eq_true hs.1
          have hs2 : s2.more = false := by
            cases hm : s2.more with
            | false => rfl
            | true => rw [hm] at hs; cases hs.2
          have hB7 := w7.mem (.tail _ (.tail _ (.tail _ (.tail _ (.tail _ (.tail _ (.head _)))))))
          (repeat walk_at "rd")
          refine rd_ixT (st_of (s7 _ _ hbk)) rfl ?_
          (repeat walk_at "rd")
          refine rd_ixT (st_of (s7 _ _ hbk)) rfl ?_
          (repeat walk_at "rd")
          refine op_Biller_bill ⟨Ab, b2, e.1.1, e.1.2, rfl, hB7, w7.imm _ _ hb2, fun H8 s8 => ?_⟩
          have w8 := w7.more s8
          rw [iv2.bill hs1 hs2, hv2]
          (repeat walk_at "rd")
          refine rd_dgetT (p := e.1) (v := e.2) (.inr ⟨od, w8.mem (.tail _ (.tail _ (.tail _ (.tail _ (.head _)))))⟩) (s8 _ _ (s7 _ _ hbk)) hv ?_
          (repeat walk_at "rd")
          refine br_ni rfl ?_
          (repeat walk_at "rd")
          exact .a ⟨_, w8, rfl⟩
        · (repeat walk_at "rd")
          exact .a ⟨_, w7, rfl⟩
      · obtain ⟨x19, w6, rfl⟩ := p.un
        have w7 : Own H H [] B2 (l39 T.C_Meter T.C_Biller t a2 lA anA sd bf A s2 Ab b2 ls2 an2 F' i2 r2 z2) _ := w6.set 4 rfl (.dT (s2.E.map kvT))
        exact .a ⟨B2, s2, b2, ls2, Ls2, an2, F', i2, r2, z2, _, _, _, _, _, _, _, _, _, ⟨w7, tk2, iv2.seen (by omega) hF', hla2, hlv2, hb2, hT2, hkb2⟩, rfl⟩
    · obtain ⟨B, s', b', ls, Ls, an, F, i, r, z, y11, y12, y13, y14, y15, y16, y17, y18, y19, ⟨w0, tk, iv, hla, hlv, hb, hT, hkb⟩, rfl⟩ := wq.un
      have hA0 := w0.mem (.tail _ (.head _))
      have e9 : tget s'.E (9, 0) = none := tget_none fun z => by
        have := hkb _ z
        have h9 : (9 : Int) < 4 := this.2
        omega
      (repeat walk_at "rd")
      refine op_Meter_metered ⟨A, s', 9, 0, rfl, hA0, w0.mem (.tail _ (.tail _ (.head _))), fun H2 s2 => ?_⟩
      rw [e9]
      (repeat walk_at "rd")
      exact q _
end
end My
namespace My
open PySem L2
theorem all_mk {P : Program} {w : World} {K : PySem.W.Frag} {h : Heap} {mg : Str → Option Value} {fa : Addr} (X : K.In h) (G : h.Ns mainGlobals mg) (hfa : mg "law" = some (.ref fa))
    {C_Meter : Addr}
    {C_Biller : Addr}
    {f_Meter___init__ : Addr} {od_Meter___init__ an_Meter___init__ : Option Addr} {sl_Meter___init__ : Array (Option Value)} {oc_Meter___init__ kV_Meter___init__ dc_Meter___init__ pm_Meter___init__ cd_Meter___init__ ct_Meter___init__ : Value}
    {f_Meter_add : Addr} {od_Meter_add an_Meter_add : Option Addr} {sl_Meter_add : Array (Option Value)} {oc_Meter_add kV_Meter_add dc_Meter_add pm_Meter_add cd_Meter_add ct_Meter_add : Value}
    {f_Meter_metered : Addr} {od_Meter_metered an_Meter_metered : Option Addr} {sl_Meter_metered : Array (Option Value)} {oc_Meter_metered kV_Meter_metered dc_Meter_metered pm_Meter_metered cd_Meter_metered ct_Meter_metered : Value}
    {f_Meter__last_serial : Addr} {od_Meter__last_serial an_Meter__last_serial : Option Addr} {sl_Meter__last_serial : Array (Option Value)} {oc_Meter__last_serial kV_Meter__last_serial dc_Meter__last_serial pm_Meter__last_serial cd_Meter__last_serial ct_Meter__last_serial : Value}
    {f_Meter_write : Addr} {od_Meter_write an_Meter_write : Option Addr} {sl_Meter_write : Array (Option Value)} {oc_Meter_write kV_Meter_write dc_Meter_write pm_Meter_write cd_Meter_write ct_Meter_write : Value}
    {f_Meter_last : Addr} {od_Meter_last an_Meter_last : Option Addr} {sl_Meter_last : Array (Option Value)} {oc_Meter_last kV_Meter_last dc_Meter_last pm_Meter_last cd_Meter_last ct_Meter_last : Value}
    {f_Meter_take : Addr} {od_Meter_take an_Meter_take : Option Addr} {sl_Meter_take : Array (Option Value)} {oc_Meter_take kV_Meter_take dc_Meter_take pm_Meter_take cd_Meter_take ct_Meter_take : Value}
    {f_Meter_is_settled : Addr} {od_Meter_is_settled an_Meter_is_settled : Option Addr} {sl_Meter_is_settled : Array (Option Value)} {oc_Meter_is_settled kV_Meter_is_settled dc_Meter_is_settled pm_Meter_is_settled cd_Meter_is_settled ct_Meter_is_settled : Value}
    {f_Biller___init__ : Addr} {od_Biller___init__ an_Biller___init__ : Option Addr} {sl_Biller___init__ : Array (Option Value)} {oc_Biller___init__ kV_Biller___init__ dc_Biller___init__ pm_Biller___init__ cd_Biller___init__ ct_Biller___init__ : Value}
    {f_Biller_take : Addr} {od_Biller_take an_Biller_take : Option Addr} {sl_Biller_take : Array (Option Value)} {oc_Biller_take kV_Biller_take dc_Biller_take pm_Biller_take cd_Biller_take ct_Biller_take : Value}
    {f_Biller_bill : Addr} {od_Biller_bill an_Biller_bill : Option Addr} {sl_Biller_bill : Array (Option Value)} {oc_Biller_bill kV_Biller_bill dc_Biller_bill pm_Biller_bill cd_Biller_bill ct_Biller_bill : Value}
    {f_u_law_next : Addr} {od_u_law_next an_u_law_next : Option Addr} {sl_u_law_next : Array (Option Value)} {oc_u_law_next kV_u_law_next dc_u_law_next pm_u_law_next cd_u_law_next ct_u_law_next : Value}
    {f_u_law_rows : Addr} {od_u_law_rows an_u_law_rows : Option Addr} {sl_u_law_rows : Array (Option Value)} {oc_u_law_rows kV_u_law_rows dc_u_law_rows pm_u_law_rows cd_u_law_rows ct_u_law_rows : Value}
    {f_u_law_bills : Addr} {od_u_law_bills an_u_law_bills : Option Addr} {sl_u_law_bills : Array (Option Value)} {oc_u_law_bills kV_u_law_bills dc_u_law_bills pm_u_law_bills cd_u_law_bills ct_u_law_bills : Value}
    {f_law : Addr} {od_law an_law : Option Addr} {sl_law : Array (Option Value)} {oc_law kV_law dc_law pm_law cd_law ct_law : Value}
    (z_len : PySem.W.nsIn K mainGlobals "len" = some none)
    (z_range : PySem.W.nsIn K mainGlobals "range" = some none)
    (z_abs : PySem.W.nsIn K mainGlobals "abs" = some none)
    (z_int : PySem.W.nsIn K mainGlobals "int" = some none)
    (z_min : PySem.W.nsIn K mainGlobals "min" = some none)
    (z_max : PySem.W.nsIn K mainGlobals "max" = some none)
    (z_isinstance : PySem.W.nsIn K mainGlobals "isinstance" = some none)
    (z_list : PySem.W.nsIn K mainGlobals "list" = some none)
    (z_tuple : PySem.W.nsIn K mainGlobals "tuple" = some none)
    (z_bool : PySem.W.nsIn K mainGlobals "bool" = some none)
    (z_sorted : PySem.W.nsIn K mainGlobals "sorted" = some none)
    (z_Meter : PySem.W.nsIn K mainGlobals "Meter" = some (some (.ref C_Meter)))
    (z_Biller : PySem.W.nsIn K mainGlobals "Biller" = some (some (.ref C_Biller)))
    (a_Meter___init__ : PySem.W.findIn K (.ref C_Meter) "__init__" = some (some (.ref f_Meter___init__)))
    (i_Meter___init__ : PySem.W.isFn K (.ref f_Meter___init__) = true)
    (l_Meter___init__ : K.lookup f_Meter___init__ = some ⟨oc_Meter___init__, od_Meter___init__, .func (PySem.W.fnOf "__init__" "Meter.__init__" (defArgs S_Meter___init__) (defBody S_Meter___init__) (defScope S_Meter___init__) .none kV_Meter___init__ dc_Meter___init__ pm_Meter___init__ an_Meter___init__ cd_Meter___init__ ct_Meter___init__), sl_Meter___init__⟩)
    (c_Meter___init__ : PySem.W.codeIn K cd_Meter___init__ "Meter.__init__" = true)
    (k_Meter___init__ : PySem.W.keepIn K (.ref f_Meter___init__) = true)
    (a_Meter_add : PySem.W.findIn K (.ref C_Meter) "add" = some (some (.ref f_Meter_add)))
    (i_Meter_add : PySem.W.isFn K (.ref f_Meter_add) = true)
    (l_Meter_add : K.lookup f_Meter_add = some ⟨oc_Meter_add, od_Meter_add, .func (PySem.W.fnOf "add" "Meter.add" (defArgs S_Meter_add) (defBody S_Meter_add) (defScope S_Meter_add) .none kV_Meter_add dc_Meter_add pm_Meter_add an_Meter_add cd_Meter_add ct_Meter_add), sl_Meter_add⟩)
    (c_Meter_add : PySem.W.codeIn K cd_Meter_add "Meter.add" = true)
    (k_Meter_add : PySem.W.keepIn K (.ref f_Meter_add) = true)
    (a_Meter_metered : PySem.W.findIn K (.ref C_Meter) "metered" = some (some (.ref f_Meter_metered)))
    (i_Meter_metered : PySem.W.isFn K (.ref f_Meter_metered) = true)
    (l_Meter_metered : K.lookup f_Meter_metered = some ⟨oc_Meter_metered, od_Meter_metered, .func (PySem.W.fnOf "metered" "Meter.metered" (defArgs S_Meter_metered) (defBody S_Meter_metered) (defScope S_Meter_metered) .none kV_Meter_metered dc_Meter_metered pm_Meter_metered an_Meter_metered cd_Meter_metered ct_Meter_metered), sl_Meter_metered⟩)
    (c_Meter_metered : PySem.W.codeIn K cd_Meter_metered "Meter.metered" = true)
    (k_Meter_metered : PySem.W.keepIn K (.ref f_Meter_metered) = true)
    (a_Meter__last_serial : PySem.W.findIn K (.ref C_Meter) "_last_serial" = some (some (.ref f_Meter__last_serial)))
    (i_Meter__last_serial : PySem.W.isFn K (.ref f_Meter__last_serial) = true)
    (l_Meter__last_serial : K.lookup f_Meter__last_serial = some ⟨oc_Meter__last_serial, od_Meter__last_serial, .func (PySem.W.fnOf "_last_serial" "Meter._last_serial" (defArgs S_Meter__last_serial) (defBody S_Meter__last_serial) (defScope S_Meter__last_serial) .none kV_Meter__last_serial dc_Meter__last_serial pm_Meter__last_serial an_Meter__last_serial cd_Meter__last_serial ct_Meter__last_serial), sl_Meter__last_serial⟩)
    (c_Meter__last_serial : PySem.W.codeIn K cd_Meter__last_serial "Meter._last_serial" = true)
    (k_Meter__last_serial : PySem.W.keepIn K (.ref f_Meter__last_serial) = true)
    (a_Meter_write : PySem.W.findIn K (.ref C_Meter) "write" = some (some (.ref f_Meter_write)))
    (i_Meter_write : PySem.W.isFn K (.ref f_Meter_write) = true)
    (l_Meter_write : K.lookup f_Meter_write = some ⟨oc_Meter_write, od_Meter_write, .func (PySem.W.fnOf "write" "Meter.write" (defArgs S_Meter_write) (defBody S_Meter_write) (defScope S_Meter_write) .none kV_Meter_write dc_Meter_write pm_Meter_write an_Meter_write cd_Meter_write ct_Meter_write), sl_Meter_write⟩)
    (c_Meter_write : PySem.W.codeIn K cd_Meter_write "Meter.write" = true)
    (k_Meter_write : PySem.W.keepIn K (.ref f_Meter_write) = true)
    (a_Meter_last : PySem.W.findIn K (.ref C_Meter) "last" = some (some (.ref f_Meter_last)))
    (i_Meter_last : PySem.W.isFn K (.ref f_Meter_last) = true)
    (l_Meter_last : K.lookup f_Meter_last = some ⟨oc_Meter_last, od_Meter_last, .func (PySem.W.fnOf "last" "Meter.last" (defArgs S_Meter_last) (defBody S_Meter_last) (defScope S_Meter_last) .none kV_Meter_last dc_Meter_last pm_Meter_last an_Meter_last cd_Meter_last ct_Meter_last), sl_Meter_last⟩)
    (c_Meter_last : PySem.W.codeIn K cd_Meter_last "Meter.last" = true)
    (k_Meter_last : PySem.W.keepIn K (.ref f_Meter_last) = true)
    (a_Meter_take : PySem.W.findIn K (.ref C_Meter) "take" = some (some (.ref f_Meter_take)))
    (i_Meter_take : PySem.W.isFn K (.ref f_Meter_take) = true)
    (l_Meter_take : K.lookup f_Meter_take = some ⟨oc_Meter_take, od_Meter_take, .func (PySem.W.fnOf "take" "Meter.take" (defArgs S_Meter_take) (defBody S_Meter_take) (defScope S_Meter_take) .none kV_Meter_take dc_Meter_take pm_Meter_take an_Meter_take cd_Meter_take ct_Meter_take), sl_Meter_take⟩)
    (c_Meter_take : PySem.W.codeIn K cd_Meter_take "Meter.take" = true)
    (k_Meter_take : PySem.W.keepIn K (.ref f_Meter_take) = true)
    (a_Meter_is_settled : PySem.W.findIn K (.ref C_Meter) "is_settled" = some (some (.ref f_Meter_is_settled)))
    (i_Meter_is_settled : PySem.W.isFn K (.ref f_Meter_is_settled) = true)
    (l_Meter_is_settled : K.lookup f_Meter_is_settled = some ⟨oc_Meter_is_settled, od_Meter_is_settled, .func (PySem.W.fnOf "is_settled" "Meter.is_settled" (defArgs S_Meter_is_settled) (defBody S_Meter_is_settled) (defScope S_Meter_is_settled) .none kV_Meter_is_settled dc_Meter_is_settled pm_Meter_is_settled an_Meter_is_settled cd_Meter_is_settled ct_Meter_is_settled), sl_Meter_is_settled⟩)
    (c_Meter_is_settled : PySem.W.codeIn K cd_Meter_is_settled "Meter.is_settled" = true)
    (k_Meter_is_settled : PySem.W.keepIn K (.ref f_Meter_is_settled) = true)
    (a_Biller___init__ : PySem.W.findIn K (.ref C_Biller) "__init__" = some (some (.ref f_Biller___init__)))
    (i_Biller___init__ : PySem.W.isFn K (.ref f_Biller___init__) = true)
    (l_Biller___init__ : K.lookup f_Biller___init__ = some ⟨oc_Biller___init__, od_Biller___init__, .func (PySem.W.fnOf "__init__" "Biller.__init__" (defArgs S_Biller___init__) (defBody S_Biller___init__) (defScope S_Biller___init__) .none kV_Biller___init__ dc_Biller___init__ pm_Biller___init__ an_Biller___init__ cd_Biller___init__ ct_Biller___init__), sl_Biller___init__⟩)
    (c_Biller___init__ : PySem.W.codeIn K cd_Biller___init__ "Biller.__init__" = true)
    (k_Biller___init__ : PySem.W.keepIn K (.ref f_Biller___init__) = true)
    (a_Biller_take : PySem.W.findIn K (.ref C_Biller) "take" = some (some (.ref f_Biller_take)))
    (i_Biller_take : PySem.W.isFn K (.ref f_Biller_take) = true)
    (l_Biller_take : K.lookup f_Biller_take = some ⟨oc_Biller_take, od_Biller_take, .func (PySem.W.fnOf "take" "Biller.take" (defArgs S_Biller_take) (defBody S_Biller_take) (defScope S_Biller_take) .none kV_Biller_take dc_Biller_take pm_Biller_take an_Biller_take cd_Biller_take ct_Biller_take), sl_Biller_take⟩)
    (c_Biller_take : PySem.W.codeIn K cd_Biller_take "Biller.take" = true)
    (k_Biller_take : PySem.W.keepIn K (.ref f_Biller_take) = true)
    (a_Biller_bill : PySem.W.findIn K (.ref C_Biller) "bill" = some (some (.ref f_Biller_bill)))
    (i_Biller_bill : PySem.W.isFn K (.ref f_Biller_bill) = true)
    (l_Biller_bill : K.lookup f_Biller_bill = some ⟨oc_Biller_bill, od_Biller_bill, .func (PySem.W.fnOf "bill" "Biller.bill" (defArgs S_Biller_bill) (defBody S_Biller_bill) (defScope S_Biller_bill) .none kV_Biller_bill dc_Biller_bill pm_Biller_bill an_Biller_bill cd_Biller_bill ct_Biller_bill), sl_Biller_bill⟩)
    (c_Biller_bill : PySem.W.codeIn K cd_Biller_bill "Biller.bill" = true)
    (k_Biller_bill : PySem.W.keepIn K (.ref f_Biller_bill) = true)
    (a_u_law_next : PySem.W.nsIn K mainGlobals "_law_next" = some (some (.ref f_u_law_next)))
    (l_u_law_next : K.lookup f_u_law_next = some ⟨oc_u_law_next, od_u_law_next, .func (PySem.W.fnOf "_law_next" "_law_next" (defArgs S_u_law_next) (defBody S_u_law_next) (defScope S_u_law_next) .none kV_u_law_next dc_u_law_next pm_u_law_next an_u_law_next cd_u_law_next ct_u_law_next), sl_u_law_next⟩)
    (c_u_law_next : PySem.W.codeIn K cd_u_law_next "_law_next" = true)
    (k_u_law_next : PySem.W.keepIn K (.ref f_u_law_next) = true)
    (a_u_law_rows : PySem.W.nsIn K mainGlobals "_law_rows" = some (some (.ref f_u_law_rows)))
    (l_u_law_rows : K.lookup f_u_law_rows = some ⟨oc_u_law_rows, od_u_law_rows, .func (PySem.W.fnOf "_law_rows" "_law_rows" (defArgs S_u_law_rows) (defBody S_u_law_rows) (defScope S_u_law_rows) .none kV_u_law_rows dc_u_law_rows pm_u_law_rows an_u_law_rows cd_u_law_rows ct_u_law_rows), sl_u_law_rows⟩)
    (c_u_law_rows : PySem.W.codeIn K cd_u_law_rows "_law_rows" = true)
    (k_u_law_rows : PySem.W.keepIn K (.ref f_u_law_rows) = true)
    (a_u_law_bills : PySem.W.nsIn K mainGlobals "_law_bills" = some (some (.ref f_u_law_bills)))
    (l_u_law_bills : K.lookup f_u_law_bills = some ⟨oc_u_law_bills, od_u_law_bills, .func (PySem.W.fnOf "_law_bills" "_law_bills" (defArgs S_u_law_bills) (defBody S_u_law_bills) (defScope S_u_law_bills) .none kV_u_law_bills dc_u_law_bills pm_u_law_bills an_u_law_bills cd_u_law_bills ct_u_law_bills), sl_u_law_bills⟩)
    (c_u_law_bills : PySem.W.codeIn K cd_u_law_bills "_law_bills" = true)
    (k_u_law_bills : PySem.W.keepIn K (.ref f_u_law_bills) = true)
    (a_law : PySem.W.nsIn K mainGlobals "law" = some (some (.ref f_law)))
    (l_law : K.lookup f_law = some ⟨oc_law, od_law, .func (PySem.W.fnOf "law" "law" (defArgs S_law) (defBody S_law) (defScope S_law) .none kV_law dc_law pm_law an_law cd_law ct_law), sl_law⟩)
    (c_law : PySem.W.codeIn K cd_law "law" = true)
    (k_law : PySem.W.keepIn K (.ref f_law) = true)
    (pg_Meter : PySem.W.plainGet K C_Meter Str.empty = true)
    (hd_Meter : PySem.W.hasDictIn K C_Meter = true)
    (po_Meter : PySem.W.plainOver K C_Meter = true)
    (sa_Meter : PySem.W.findIn K (.ref C_Meter) "__setattr__" = some (some (.builtin "object.__setattr__")))
    (mk_Meter : PySem.W.makesIn K C_Meter = true)
    (kc_Meter : PySem.W.keepIn K (.ref C_Meter) = true)
    (nf_Meter__sums : PySem.W.findIn K (.ref C_Meter) "_sums" = some none)
    (nf_Meter__last : PySem.W.findIn K (.ref C_Meter) "_last" = some none)
    (nf_Meter__answered : PySem.W.findIn K (.ref C_Meter) "_answered" = some none)
    (nf_Meter__has_more : PySem.W.findIn K (.ref C_Meter) "_has_more" = some none)
    (pg_Biller : PySem.W.plainGet K C_Biller Str.empty = true)
    (hd_Biller : PySem.W.hasDictIn K C_Biller = true)
    (po_Biller : PySem.W.plainOver K C_Biller = true)
    (sa_Biller : PySem.W.findIn K (.ref C_Biller) "__setattr__" = some (some (.builtin "object.__setattr__")))
    (mk_Biller : PySem.W.makesIn K C_Biller = true)
    (kc_Biller : PySem.W.keepIn K (.ref C_Biller) = true)
    (nf_Biller__serial : PySem.W.findIn K (.ref C_Biller) "_serial" = some none)
    (nf_Biller__bills : PySem.W.findIn K (.ref C_Biller) "_bills" = some none)
    : ∃ fd : FuncData, (∀ (s : Shared) (v : Value), BindsTo s fd ⟨[v], []⟩ [("script", v)]) ∧ ∀ base : Heap, K.In base → base.Ns mainGlobals mg → FnOk P w K mg base CX0 3 fa fd ["script"] (ip_law K) := by
  have e := hfa.symm.trans (PySem.W.mg_of X G a_law)
  cases e
  have F_Meter___init__ := fun_mk (st := S_Meter___init__) l_Meter___init__ c_Meter___init__ k_Meter___init__
  have b_Meter___init__ := F_Meter___init__.binds (ps := ["self"]) fun _ _ _ _ _ _ us hl => match us, hl with | [_], _ => rfl
  have F_Meter_add := fun_mk (st := S_Meter_add) l_Meter_add c_Meter_add k_Meter_add
  have b_Meter_add := F_Meter_add.binds (ps := ["self", "bearer", "way", "size"]) fun _ _ _ _ _ _ us hl => match us, hl with | [_, _, _, _], _ => rfl
  have F_Meter_metered := fun_mk (st := S_Meter_metered) l_Meter_metered c_Meter_metered k_Meter_metered
  have b_Meter_metered := F_Meter_metered.binds (ps := ["self", "bearer", "way"]) fun _ _ _ _ _ _ us hl => match us, hl with | [_, _, _], _ => rfl
  have F_Meter__last_serial := fun_mk (st := S_Meter__last_serial) l_Meter__last_serial c_Meter__last_serial k_Meter__last_serial
  have b_Meter__last_serial := F_Meter__last_serial.binds (ps := ["self"]) fun _ _ _ _ _ _ us hl => match us, hl with | [_], _ => rfl
  have F_Meter_write := fun_mk (st := S_Meter_write) l_Meter_write c_Meter_write k_Meter_write
  have b_Meter_write := F_Meter_write.binds (ps := ["self"]) fun _ _ _ _ _ _ us hl => match us, hl with | [_], _ => rfl
  have F_Meter_last := fun_mk (st := S_Meter_last) l_Meter_last c_Meter_last k_Meter_last
  have b_Meter_last := F_Meter_last.binds (ps := ["self"]) fun _ _ _ _ _ _ us hl => match us, hl with | [_], _ => rfl
  have F_Meter_take := fun_mk (st := S_Meter_take) l_Meter_take c_Meter_take k_Meter_take
  have b_Meter_take := F_Meter_take.binds (ps := ["self", "serial"]) fun _ _ _ _ _ _ us hl => match us, hl with | [_, _], _ => rfl
  have F_Meter_is_settled := fun_mk (st := S_Meter_is_settled) l_Meter_is_settled c_Meter_is_settled k_Meter_is_settled
  have b_Meter_is_settled := F_Meter_is_settled.binds (ps := ["self"]) fun _ _ _ _ _ _ us hl => match us, hl with | [_], _ => rfl
  have F_Biller___init__ := fun_mk (st := S_Biller___init__) l_Biller___init__ c_Biller___init__ k_Biller___init__
  have b_Biller___init__ := F_Biller___init__.binds (ps := ["self"]) fun _ _ _ _ _ _ us hl => match us, hl with | [_], _ => rfl
  have F_Biller_take := fun_mk (st := S_Biller_take) l_Biller_take c_Biller_take k_Biller_take
  have b_Biller_take := F_Biller_take.binds (ps := ["self", "letter"]) fun _ _ _ _ _ _ us hl => match us, hl with | [_, _], _ => rfl
  have F_Biller_bill := fun_mk (st := S_Biller_bill) l_Biller_bill c_Biller_bill k_Biller_bill
  have b_Biller_bill := F_Biller_bill.binds (ps := ["self", "bearer", "way"]) fun _ _ _ _ _ _ us hl => match us, hl with | [_, _, _], _ => rfl
  have F_u_law_next := fun_mk (st := S_u_law_next) l_u_law_next c_u_law_next k_u_law_next
  have b_u_law_next := F_u_law_next.binds (ps := ["tape", "many"]) fun _ _ _ _ _ _ us hl => match us, hl with | [_, _], _ => rfl
  have F_u_law_rows := fun_mk (st := S_u_law_rows) l_u_law_rows c_u_law_rows k_u_law_rows
  have b_u_law_rows := F_u_law_rows.binds (ps := ["sums"]) fun _ _ _ _ _ _ us hl => match us, hl with | [_], _ => rfl
  have F_u_law_bills := fun_mk (st := S_u_law_bills) l_u_law_bills c_u_law_bills k_u_law_bills
  have b_u_law_bills := F_u_law_bills.binds (ps := ["biller", "letters", "newest", "sums", "before"]) fun _ _ _ _ _ _ us hl => match us, hl with | [_, _, _, _, _], _ => rfl
  have F_law := fun_mk (st := S_law) l_law c_law k_law
  have b_law := F_law.binds (ps := ["script"]) fun _ _ _ _ _ _ us hl => match us, hl with | [_], _ => rfl
  refine ⟨PySem.W.fnOf "law" "law" (defArgs S_law) (defBody S_law) (defScope S_law) .none kV_law dc_law pm_law an_law cd_law ct_law, fun s v => .of_eq rfl, fun base _ _ => ?_⟩
  exact ok_law (T := ({
      n_len := PySem.W.mg_none_of X G z_len,
      n_range := PySem.W.mg_none_of X G z_range,
      n_abs := PySem.W.mg_none_of X G z_abs,
      n_int := PySem.W.mg_none_of X G z_int,
      n_min := PySem.W.mg_none_of X G z_min,
      n_max := PySem.W.mg_none_of X G z_max,
      n_isinstance := PySem.W.mg_none_of X G z_isinstance,
      n_list := PySem.W.mg_none_of X G z_list,
      n_tuple := PySem.W.mg_none_of X G z_tuple,
      n_bool := PySem.W.mg_none_of X G z_bool,
      n_sorted := PySem.W.mg_none_of X G z_sorted,
      C_Meter := C_Meter,
      g_Meter := PySem.W.mg_of X G z_Meter,
      C_Biller := C_Biller,
      g_Biller := PySem.W.mg_of X G z_Biller,
      a_Meter___init__ := _,
      d_Meter___init__ := _,
      p_Meter___init__ := ⟨F_Meter___init__, b_Meter___init__, ⟨a_Meter___init__, i_Meter___init__, k_Meter___init__⟩⟩,
      a_Meter_add := _,
      d_Meter_add := _,
      p_Meter_add := ⟨F_Meter_add, b_Meter_add, ⟨a_Meter_add, i_Meter_add, k_Meter_add⟩⟩,
      a_Meter_metered := _,
      d_Meter_metered := _,
      p_Meter_metered := ⟨F_Meter_metered, b_Meter_metered, ⟨a_Meter_metered, i_Meter_metered, k_Meter_metered⟩⟩,
      a_Meter__last_serial := _,
      d_Meter__last_serial := _,
      p_Meter__last_serial := ⟨F_Meter__last_serial, b_Meter__last_serial, ⟨a_Meter__last_serial, i_Meter__last_serial, k_Meter__last_serial⟩⟩,
      a_Meter_write := _,
      d_Meter_write := _,
      p_Meter_write := ⟨F_Meter_write, b_Meter_write, ⟨a_Meter_write, i_Meter_write, k_Meter_write⟩⟩,
      a_Meter_last := _,
      d_Meter_last := _,
      p_Meter_last := ⟨F_Meter_last, b_Meter_last, ⟨a_Meter_last, i_Meter_last, k_Meter_last⟩⟩,
      a_Meter_take := _,
      d_Meter_take := _,
      p_Meter_take := ⟨F_Meter_take, b_Meter_take, ⟨a_Meter_take, i_Meter_take, k_Meter_take⟩⟩,
      a_Meter_is_settled := _,
      d_Meter_is_settled := _,
      p_Meter_is_settled := ⟨F_Meter_is_settled, b_Meter_is_settled, ⟨a_Meter_is_settled, i_Meter_is_settled, k_Meter_is_settled⟩⟩,
      a_Biller___init__ := _,
      d_Biller___init__ := _,
      p_Biller___init__ := ⟨F_Biller___init__, b_Biller___init__, ⟨a_Biller___init__, i_Biller___init__, k_Biller___init__⟩⟩,
      a_Biller_take := _,
      d_Biller_take := _,
      p_Biller_take := ⟨F_Biller_take, b_Biller_take, ⟨a_Biller_take, i_Biller_take, k_Biller_take⟩⟩,
      a_Biller_bill := _,
      d_Biller_bill := _,
      p_Biller_bill := ⟨F_Biller_bill, b_Biller_bill, ⟨a_Biller_bill, i_Biller_bill, k_Biller_bill⟩⟩,
      a_u_law_next := _,
      d_u_law_next := _,
      p_u_law_next := ⟨F_u_law_next, b_u_law_next, PySem.W.mg_of X G a_u_law_next⟩,
      a_u_law_rows := _,
      d_u_law_rows := _,
      p_u_law_rows := ⟨F_u_law_rows, b_u_law_rows, PySem.W.mg_of X G a_u_law_rows⟩,
      a_u_law_bills := _,
      d_u_law_bills := _,
      p_u_law_bills := ⟨F_u_law_bills, b_u_law_bills, PySem.W.mg_of X G a_u_law_bills⟩,
      a_law := _,
      d_law := _,
      p_law := ⟨F_law, b_law, PySem.W.mg_of X G a_law⟩,
      k_Meter := ⟨⟨pg_Meter, hd_Meter, po_Meter, sa_Meter⟩, ⟨mk_Meter, a_Meter___init__, i_Meter___init__, kc_Meter⟩⟩,
      f_Meter__sums := nf_Meter__sums,
      f_Meter__last := nf_Meter__last,
      f_Meter__answered := nf_Meter__answered,
      f_Meter__has_more := nf_Meter__has_more,
      k_Biller := ⟨⟨pg_Biller, hd_Biller, po_Biller, sa_Biller⟩, ⟨mk_Biller, a_Biller___init__, i_Biller___init__, kc_Biller⟩⟩,
      f_Biller__serial := nf_Biller__serial,
      f_Biller__bills := nf_Biller__bills
    } : Tx P w K mg base))
theorem walk {l : PySem.W.OpenLaw} {q : Program} {loose : List Str} {XP : (Str → Option Value) → Heap → Prop} {YP : World → Heap → Prop} {d : DefRec} {K : Params → PySem.W.Frag} (hn : l.most = some 63) (hdf : d.params.defaults = [])
    (hY : ∀ (w : World) (h : Heap), YP w h → (K w.params).In h)
    (F : ∀ (w : World) (mg : Str → Option Value) (fa : Addr) (h : Heap), (K w.params).In h → h.Ns mainGlobals mg → mg d.name = some (.ref fa) →
      ∃ fd : FuncData, (∀ (s : Shared) (u : Value), BindsTo s fd ⟨[u], []⟩ [("script", u)]) ∧ ∀ base : Heap, (K w.params).In base → base.Ns mainGlobals mg → FnOk l.prog w (K w.params) mg base CX0 3 fa fd ["script"] (ip_law (K w.params))) :
    PySem.W.WalkO q loose XP YP l.row.toRowW d [] (fun f vs => PySem.call f vs) :=
  L2.walk_of (n := 63) (k := 3) (x := "script") (CX := fun _ => CX0) (sp := fun w => ip_law (K w.params)) hn (by decide) hdf ⟨rfl, by decide, by decide⟩ hY F (fun _ _ a ns hl _ hS => op_law ⟨a, ns, rfl, hS, hl, fun _ => rfl⟩) fun _ _ _ _ _ z => z
end My
open PySem PySem.W PyProof.Rows
set_option maxRecDepth 100000 in
set_option maxHeartbeats 0 in
theorem PySem.Challenge.cw_bearerwise_k39_bills_holds : PySem.Challenge.rw_bearerwise_k39_bills.Holds := by
  w_on; o_law; k_head; (case hw => w_witness2)
  k_fill
  refine My.walk (l := PySem.Challenge.rw_bearerwise_k39_bills) rfl rfl (fun w h Y => PySem.W.kIn_of Y) ?F
  case F =>
    intro w mg fa h KX G hmg
    refine' My.all_mk KX G hmg ?z_len ?z_range ?z_abs ?z_int ?z_min ?z_max ?z_isinstance ?z_list ?z_tuple ?z_bool ?z_sorted ?z_Meter ?z_Biller ?a_Meter___init__ ?i_Meter___init__ ?l_Meter___init__ ?c_Meter___init__ ?k_Meter___init__ ?a_Meter_add ?i_Meter_add ?l_Meter_add ?c_Meter_add ?k_Meter_add ?a_Meter_metered ?i_Meter_metered ?l_Meter_metered ?c_Meter_metered ?k_Meter_metered ?a_Meter__last_serial ?i_Meter__last_serial ?l_Meter__last_serial ?c_Meter__last_serial ?k_Meter__last_serial ?a_Meter_write ?i_Meter_write ?l_Meter_write ?c_Meter_write ?k_Meter_write ?a_Meter_last ?i_Meter_last ?l_Meter_last ?c_Meter_last ?k_Meter_last ?a_Meter_take ?i_Meter_take ?l_Meter_take ?c_Meter_take ?k_Meter_take ?a_Meter_is_settled ?i_Meter_is_settled ?l_Meter_is_settled ?c_Meter_is_settled ?k_Meter_is_settled ?a_Biller___init__ ?i_Biller___init__ ?l_Biller___init__ ?c_Biller___init__ ?k_Biller___init__ ?a_Biller_take ?i_Biller_take ?l_Biller_take ?c_Biller_take ?k_Biller_take ?a_Biller_bill ?i_Biller_bill ?l_Biller_bill ?c_Biller_bill ?k_Biller_bill ?a_u_law_next ?l_u_law_next ?c_u_law_next ?k_u_law_next ?a_u_law_rows ?l_u_law_rows ?c_u_law_rows ?k_u_law_rows ?a_u_law_bills ?l_u_law_bills ?c_u_law_bills ?k_u_law_bills ?a_law ?l_law ?c_law ?k_law ?pg_Meter ?hd_Meter ?po_Meter ?sa_Meter ?mk_Meter ?kc_Meter ?nf_Meter__sums ?nf_Meter__last ?nf_Meter__answered ?nf_Meter__has_more ?pg_Biller ?hd_Biller ?po_Biller ?sa_Biller ?mk_Biller ?kc_Biller ?nf_Biller__serial ?nf_Biller__bills
    (case z_len => k_is)
    (case z_range => k_is)
    (case z_abs => k_is)
    (case z_int => k_is)
    (case z_min => k_is)
    (case z_max => k_is)
    (case z_isinstance => k_is)
    (case z_list => k_is)
    (case z_tuple => k_is)
    (case z_bool => k_is)
    (case z_sorted => k_is)
    (case z_Meter => k_is)
    (case z_Biller => k_is)
    (case a_Meter___init__ => k_is)
    (case i_Meter___init__ => k_is)
    (case l_Meter___init__ => k_is)
    (case c_Meter___init__ => k_is)
    (case k_Meter___init__ => k_is)
    (case a_Meter_add => k_is)
    (case i_Meter_add => k_is)
    (case l_Meter_add => k_is)
    (case c_Meter_add => k_is)
    (case k_Meter_add => k_is)
    (case a_Meter_metered => k_is)
    (case i_Meter_metered => k_is)
    (case l_Meter_metered => k_is)
    (case c_Meter_metered => k_is)
    (case k_Meter_metered => k_is)
    (case a_Meter__last_serial => k_is)
    (case i_Meter__last_serial => k_is)
    (case l_Meter__last_serial => k_is)
    (case c_Meter__last_serial => k_is)
    (case k_Meter__last_serial => k_is)
    (case a_Meter_write => k_is)
    (case i_Meter_write => k_is)
    (case l_Meter_write => k_is)
    (case c_Meter_write => k_is)
    (case k_Meter_write => k_is)
    (case a_Meter_last => k_is)
    (case i_Meter_last => k_is)
    (case l_Meter_last => k_is)
    (case c_Meter_last => k_is)
    (case k_Meter_last => k_is)
    (case a_Meter_take => k_is)
    (case i_Meter_take => k_is)
    (case l_Meter_take => k_is)
    (case c_Meter_take => k_is)
    (case k_Meter_take => k_is)
    (case a_Meter_is_settled => k_is)
    (case i_Meter_is_settled => k_is)
    (case l_Meter_is_settled => k_is)
    (case c_Meter_is_settled => k_is)
    (case k_Meter_is_settled => k_is)
    (case a_Biller___init__ => k_is)
    (case i_Biller___init__ => k_is)
    (case l_Biller___init__ => k_is)
    (case c_Biller___init__ => k_is)
    (case k_Biller___init__ => k_is)
    (case a_Biller_take => k_is)
    (case i_Biller_take => k_is)
    (case l_Biller_take => k_is)
    (case c_Biller_take => k_is)
    (case k_Biller_take => k_is)
    (case a_Biller_bill => k_is)
    (case i_Biller_bill => k_is)
    (case l_Biller_bill => k_is)
    (case c_Biller_bill => k_is)
    (case k_Biller_bill => k_is)
    (case a_u_law_next => k_is)
    (case l_u_law_next => k_is)
    (case c_u_law_next => k_is)
    (case k_u_law_next => k_is)
    (case a_u_law_rows => k_is)
    (case l_u_law_rows => k_is)
    (case c_u_law_rows => k_is)
    (case k_u_law_rows => k_is)
    (case a_u_law_bills => k_is)
    (case l_u_law_bills => k_is)
    (case c_u_law_bills => k_is)
    (case k_u_law_bills => k_is)
    (case a_law => k_is)
    (case l_law => k_is)
    (case c_law => k_is)
    (case k_law => k_is)
    (case pg_Meter => k_is)
    (case hd_Meter => k_is)
    (case po_Meter => k_is)
    (case sa_Meter => k_is)
    (case mk_Meter => k_is)
    (case kc_Meter => k_is)
    (case nf_Meter__sums => k_is)
    (case nf_Meter__last => k_is)
    (case nf_Meter__answered => k_is)
    (case nf_Meter__has_more => k_is)
    (case pg_Biller => k_is)
    (case hd_Biller => k_is)
    (case po_Biller => k_is)
    (case sa_Biller => k_is)
    (case mk_Biller => k_is)
    (case kc_Biller => k_is)
    (case nf_Biller__serial => k_is)
    (case nf_Biller__bills => k_is)

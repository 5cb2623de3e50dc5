import PyProof.Rows.All
import Wide.All
import OpenK.AllK
import Wide.FinOn
import HandS.ForMost
import HandS.ForExc
import HandS.IsInst
import HandS.ExcIs
import HandS.ExcInit
import HandS.Wide
import HandS.WideBits
import HandS.Zip
import HandS.Flow
import HandS.Flt
import HandS.Walk
import HandS.More
import PySem.Challenge.RW_bearerwise_k12_whole_no_number_is_read_w
set_option Elab.async false
set_option linter.all false
set_option maxRecDepth 100000
set_option maxHeartbeats 4000000
namespace My
open PySem L2

/-! ### a def as the top has left it -/
structure DefAt (K : PySem.W.Frag) (mg : Str → Option Value) (x q : Str) (st : Stmt) (ps : List Str) (f : Addr) (fd : FuncData) : Prop where
  F : Fun K x q st f fd
  b : Binds K fd ps []
  m : mg x = some (.ref f)
structure MethAt (K : PySem.W.Frag) (C : Addr) (x q : Str) (st : Stmt) (ps : List Str) (f : Addr) (fd : FuncData) : Prop where
  F : Fun K x q st f fd
  b : Binds K fd ps []
  me : Meth K C x f

structure DefAt0 (K : PySem.W.Frag) (x q : Str) (st : Stmt) (ps : List Str) (f : Addr) (fd : FuncData) : Prop where
  F : Fun K x q st f fd
  b : Binds K fd ps []
structure ClsAt (K : PySem.W.Frag) (C f : Addr) : Prop where
  cl : Cls K C
  mk' : Mk K C f

/-! ### heaps -/
theorem same_upd {H : Hp} {p : Addr} {o : HO} (h : H p = none) : Same H (upd H p o) := fun b x e => by
  rw [upd_ne (ne_of_none e h)]
  exact e
theorem same_none {H H' : Hp} {p : Addr} (s : Same H H') (h : H' p = none) : H p = none := by
  cases e : H p with
  | none => rfl
  | some o =>
    rw [s _ _ e] at h
    cases h
/-- an object that H does not know may change -/
theorem same_mut {H H' : Hp} {p : Addr} {o : HO} (e : Same H H') (h : H p = none) : Same H (upd H' p o) := fun b x hb => by
  rw [upd_ne (ne_of_none hb h)]
  exact e b x hb
theorem sq_of {K : PySem.W.Frag} {H : Hp} {a : Addr} {xs : List V} (h : H a = some (.lst xs)) : SqL K H a xs := Or.inl (Or.inl h)
theorem st_of {K : PySem.W.Frag} {H : Hp} {a : Addr} {xs : List V} (h : H a = some (.tup xs)) : SqT K H a xs := Or.inl (Or.inl h)
theorem Same.sqt {K : PySem.W.Frag} {H H' : Hp} {a : Addr} {xs : List V} (e : Same H H') (h : SqT K H a xs) : SqT K H' a xs := by
  rcases h with (h | ⟨o, h⟩) | h
  · exact .inl (.inl (e _ _ h))
  · exact .inl (.inr ⟨o, e _ _ h⟩)
  · exact .inr h
theorem hp_step {H H' : Hp} {a : Addr} {o : HO} (h : H a = some o) (s : Same H H') : H' a = some o := s _ _ h
theorem sq_step {K : PySem.W.Frag} {H H' : Hp} {a : Addr} {xs : List V} (h : SqL K H a xs) (s : Same H H') : SqL K H' a xs := s.seq h
theorem sqt_step {K : PySem.W.Frag} {H H' : Hp} {a : Addr} {xs : List V} (h : SqT K H a xs) (s : Same H H') : SqT K H' a xs := Same.sqt s h
theorem sz {n : Nat} (h : n ≤ 1000000) : n ≤ sizeLine := Nat.le_trans h (by rw [sizeLine_eq]; decide)
theorem szl {n : Nat} (h : n < 1000000) : n < sizeLine := Nat.lt_of_lt_of_le h (by rw [sizeLine_eq]; decide)

/-- the promises' shapes: a value and the heap as it was; a value; a new list -/
def RV (v : V) (H : Hp) (Q : VK) : Prop := ∀ H', Same H H' → Q v H'
def RL (xs : List V) (H : Hp) (Q : VK) : Prop := ∀ p H', H p = none → Same H H' → H' p = some (.lst xs) → Q (.ref p) H'
def RT (xs : List V) (H : Hp) (Q : VK) : Prop := ∀ p H', H p = none → Same H H' → H' p = some (.tup xs) → Q (.ref p) H'

/-! ### stops for the walk: a proposition that no tuple opens -/
inductive Stop (p : Prop) : Prop where
  | a (h : p) : Stop p
  | b (h : p) : Stop p
theorem Stop.un {p : Prop} (h : Stop p) : p := by cases h <;> assumption

/-! ### an exception of an own class whose __init__ takes nothing and stores nothing: X() -/
def spInit0 : Sp := fun vs H Q _ => ∃ a, vs = [.ref a] ∧ Q .non H
structure PlainExc (P : Program) (w : World) (K : PySem.W.Frag) (mg : Str → Option Value) (base : Heap) (x : Str) (C fI : Addr) (fdI : FuncData) : Prop where
  T : OexC K C
  iC : PySem.W.findIn K (.ref C) "__init__" = some (some (.ref fI))
  tI : PySem.W.typeIn K (.ref fI) = some (.type "function")
  F1 : FnOk P w K mg base CX0 1 fI fdI ["self"] spInit0
  bI : Binds K fdI ["self"] []
  m : mg x = some (.ref C)
open PySem.Spec PyProof.Rows in
theorem mk_endN {X : Cx} {pins : List (Addr × Obj)} {σ : L2.St} {H1 : Hp} {Q : XK} {hp hp2 h2 : Heap} {g1 g2 : Array GenState} {d1 d2 : Drawn} {t1 t2 : Nat} {os1 os2 : OsState} {a C : Addr} (T : Raises X (.ref C)) (I1 : Inv X pins σ H1 ⟨hp, g1, d1, t1, os1⟩)
    (ha : hp.objs.size ≤ a) (k : ∀ b o, hp.get? b = some o → hp2.get? b = some o) (un : Un (frs X.stack) [] (upd H1 a (exo a C none)) (upd H1 a (exo a C none)) hp2 h2) (hok : HOk X.prog X.w (upd H1 a (exo a C none)) h2) (ho : os2 = os1) (hb : AllBare g2)
    (q : Q (.ref C) none H1) : MkP X pins σ Q (.ref a) ⟨h2, g2, d2, t2, os2⟩ := by
  obtain ⟨t0, hoe⟩ := exo_at hok upd_same
  have hn : H1 a = none := I1.hok.fresh ha
  obtain ⟨G, g1', g2'⟩ := restrict h2 fun b => decide (b ≠ a)
  have gk : ∀ b, b ≠ a → G.get? b = h2.get? b := fun b hb => g1' b (decide_eq_true hb)
  have ge : G.get? a = none := g2' a (by simp)
  have nha : ∀ {b : Addr} {o : Obj}, hp.get? b = some o → b ≠ a := fun {b o} z => Nat.ne_of_lt (Nat.lt_of_lt_of_le (Heap.lt_size z) ha)
  have up : ∀ {b : Addr}, b ≠ a → H1 b = none → upd H1 a (exo a C none) b = none := fun {b} hb n => by rw [upd_ne hb]; exact n
  have U : Un (frs X.stack) [] H1 H1 hp G := {
    keep := fun b o z n hf hx => by
      rw [gk b (nha z)]
      exact un.keep b o (k b o z) (up (nha z) n) hf hx
    slot := fun b o z n hf hx => by
      rw [gk b (nha z)]
      exact un.slot b o (k b o z) (up (nha z) n) hf hx
    free := fun b o z n hx => n
    there := fun b o z hx => by
      rw [gk b (nha z)]
      exact un.there b o (k b o z) hx
    tups := fun b xs z => z
    frzs := fun b o v z => z
    tbls := fun b ps z => ⟨#[], by rw [z]; simp⟩ }
  have hok3 : HOk X.prog X.w H1 G := fun b o z => by
    have hba : b ≠ a := fun e => by
      rw [e, hn] at z
      cases z
    have z2 : upd H1 a (exo a C none) b = some o := by rw [upd_ne hba]; exact z
    have noa : ∀ {c : Addr} {u : HO}, H1 c = some u → c ≠ a := fun {c u} hc e => by
      rw [e, hn] at hc
      cases hc
    exact (hok b o z2).stay (fun c v hc y => by
        have hca : c ≠ a := by
          rcases hc with hc | hc
          · rw [hc]
            exact hba
          · exact fun e => by
              rw [e, upd_same] at hc
              exact exo_own (Option.some.inj hc)
        rw [gk c hca]
        exact y)
      (fun c hc => by
        by_cases e : c = a
        · rw [e, upd_same] at hc
          exact absurd (Option.some.inj hc) exo_own
        · rw [upd_ne e] at hc
          exact hc)
      (fun c xs hc => by
        by_cases e : c = a
        · rw [e, upd_same] at hc
          exact absurd (Option.some.inj hc) exo_tup
        · rw [upd_ne e] at hc
          exact hc)
  have J : Inv X pins σ H1 ⟨G, g2, d2, t2, os2⟩ := I1.call' (ch := []) ho U hok3 hb (fun b z => absurd z (by simp))
  refine ⟨a, _, _, ⟨G, g2, d2, t2, os2⟩, _, .ref C, none, rfl, J, fun b o z => ?_, ge, hoe, ⟨rfl, rfl⟩, rfl, rfl, hn, rfl, hb, T, q⟩
  by_cases hba : b = a
  · rw [hba, ge] at z
    cases z
  · exact (gk b hba).symm.trans z
open PySem.Spec PyProof.Rows in
theorem pmk_plain {X : Cx} {x : Str} {C fI : Addr} {fdI : FuncData} {p pos : Pos} (T : PlainExc X.prog X.w X.K X.mg X.base x C fI fdI) (hr : Room 2 X.A) (hg : Gl X x) (hdb : (x == ("__debug__" : Str)) = false := by decide) :
    PMk X (.Call (.Name x p) [] [] pos) (fun _ H Q => Q (.ref C) none H) := by
  intro pins s σ H Q I h
  obtain ⟨nm, q, N, bs, bm, sn, sub, ab, col, dd, k0, k1, k2, k3, k5, hC, hbm⟩ := T.T.cls
  refine wpAny_Call_Name_kw (ld_glob I hg T.m ?_ hdb)
  refine PySem.W.callWith_K0 I.kIn T.T.kC ?_
  show wpAny _ _ (call (.ref C) []) _ _ _
  obtain ⟨hp, g, dr, tk, os⟩ := s
  have hsz : hp.objs.size ≤ hp.objs.size + 1 := Nat.le_succ _
  have hn : H (hp.objs.size + 1) = none := I.hok.fresh hsz
  have kk : ∀ b o, hp.get? b = some o → ((hp.push (PySem.W.kdv_tup [])).push (PySem.HandSPX.excO C hp.objs.size)).get? b = some o := fun b o e => Heap.get?_push_of_some _ (Heap.get?_push_of_some _ e)
  have hget : ((hp.push (PySem.W.kdv_tup [])).push (PySem.HandSPX.excO C hp.objs.size)).get? (hp.objs.size + 1) = some (PySem.HandSPX.excO C hp.objs.size) := by heap_get
  have I2 : Inv X pins σ (upd H (hp.objs.size + 1) (exo (hp.objs.size + 1) C none)) ⟨(hp.push (PySem.W.kdv_tup [])).push (PySem.HandSPX.excO C hp.objs.size), g, dr, tk, os⟩ :=
    I.laid (t' := tk) (a := hp.objs.size + 1) (o := exo (hp.objs.size + 1) C none) (h' := (hp.push (PySem.W.kdv_tup [])).push (PySem.HandSPX.excO C hp.objs.size)) kk hsz (exo_ok hget)
  have r2 : Vals [V.ref (hp.objs.size + 1)] [Value.ref (hp.objs.size + 1)] := .cons rfl .nil
  have hq : spInit0 [V.ref (hp.objs.size + 1)] (upd H (hp.objs.size + 1) (exo (hp.objs.size + 1) C none)) (fun v H2 => v = .non ∧ H2 = upd H (hp.objs.size + 1) (exo (hp.objs.size + 1) C none)) (fun _ _ _ => False) := ⟨_, rfl, rfl, rfl⟩
  refine wpAny_call (PySem.HandSPX.call_own PySem.F.excBase_ValueError (fun Y => PySem.HandSPX.refsVE_contains Y bm hbm) (I.kIn _ _ hC) (PySem.W.looks_findIn I.kIn T.iC) (fun self => PySem.W.bind_fn I.kIn self T.tI) (Nat.zero_le _)
    (codeAny_mono (T.F1.run _ X.stack _ _ ⟨[Value.ref (hp.objs.size + 1)], []⟩ [Value.ref (hp.objs.size + 1)] _ _ (fun _ _ _ => False) (hr.make C [] []) (I2.env0.make C [] []) (T.bI _ [Value.ref (hp.objs.size + 1)] I2.kIn rfl) r2 hq) fun r s' hq' => ?_))
  cases r with
  | error er => exact hq'.elim
  | ok fl =>
    cases fl with
    | ret u =>
      obtain ⟨v, H2, os2, bare2, un2, hok2, rv, ev, eH⟩ := hq'
      subst ev
      subst eH
      obtain ⟨h2, g2, d2, t2, os'⟩ := s'
      exact ⟨rv, mk_endN (raises_own T.T.exC T.T.tyC) I hsz kk un2 hok2 os2 bare2 h⟩
    | next => exact False.elim hq'
    | brk => exact False.elim hq'
    | cont => exact False.elim hq'

theorem ite_t {c A B : Prop} [Decidable c] (hc : c) (h : A) : if decide c = true then A else B := by
  rw [decide_eq_true hc]
  exact iteT h
theorem ite_f {c A B : Prop} [Decidable c] (hc : ¬ c) (h : B) : if decide c = true then A else B := by
  rw [decide_eq_false hc]
  exact iteF h
theorem ite_nt {c A B : Prop} [Decidable c] (hc : ¬ c) (h : A) : if (!decide c) = true then A else B := by
  rw [decide_eq_false hc]
  exact iteT h
theorem ite_nf {c A B : Prop} [Decidable c] (hc : c) (h : B) : if (!decide c) = true then A else B := by
  rw [decide_eq_true hc]
  exact iteF h
theorem ite_by {c A B : Prop} [Decidable c] (h1 : c → A) (h2 : ¬ c → B) : if decide c = true then A else B := by
  by_cases h : c
  · exact ite_t h (h1 h)
  · exact ite_f h (h2 h)
theorem ite_nby {c A B : Prop} [Decidable c] (h1 : ¬ c → A) (h2 : c → B) : if (!decide c) = true then A else B := by
  by_cases h : c
  · exact ite_nf h (h2 h)
  · exact ite_nt h (h1 h)
/-- an item of the ints -/
theorem at_int {ns : List Int} {k : Int} (h0 : 0 ≤ k) (h1 : k < (ns.length : Int)) : atI (ns.map V.int) k = some (V.int (ns.getD k.toNat 0)) := by
  refine at_of (j := k.toNat) (by omega) ?_
  have h2 : k.toNat < ns.length := by omega
  rw [List.getElem?_map, List.getElem?_eq_getElem h2, List.getD_eq_getElem?_getD, List.getElem?_eq_getElem h2]
  rfl
theorem two_pos1 (k : Nat) : (0 : Int) < 1 * 2 ^ k := by
  rw [Int.one_mul]
  exact Int.pow_pos (by decide)
theorem q_int {Q : VK} {x y : Int} {H : Hp} (q : Q (.int x) H) (e : x = y) : Q (.int y) H := e ▸ q
theorem q_bl {Q : VK} {x y : Bool} {H : Hp} (q : Q (.bl x) H) (e : x = y) : Q (.bl y) H := e ▸ q

/-! ### readings that stop the walk where a new object comes: told by what holds of the new heap -/
/-- the closure of a reading: some wish that it keeps, and that is enough -/
def cTE (t : TE) : TE := fun σ H Q => ∃ R : VK, t σ H R ∧ ∀ v H', R v H' → Q v H'
def cTA (t : TA) : TA := fun σ H Q => ∃ R : List V → Hp → Prop, t σ H R ∧ ∀ v H', R v H' → Q v H'
def cTT (t : TT) : TT := fun σ H Q => ∃ R : Bool → Hp → Prop, t σ H R ∧ ∀ v H', R v H' → Q v H'
section
variable {X : Cx} {e : Expr} {es : List Expr} {te : TE} {ta : TA} {tt : TT} {pos : Pos}
theorem pe_c (h : PE X e te) : PE X e (cTE te) := ⟨fun pins s σ H Q I ⟨R, h1, h2⟩ => thn (h.run pins s σ H R I h1) fun u s1 ⟨v, H1, I1, r, q⟩ => ⟨v, H1, I1, r, h2 _ _ q⟩⟩
theorem pa_c (h : PA X es ta) : PA X es (cTA ta) := ⟨fun pos pins s σ H Q I ⟨R, h1, h2⟩ => thn (h.run pos pins s σ H R I h1) fun u s1 ⟨v, H1, I1, r, q⟩ => ⟨v, H1, I1, r, h2 _ _ q⟩⟩
theorem pt_c (h : PT X e tt) : PT X e (cTT tt) := ⟨fun pins s σ H Q I ⟨R, h1, h2⟩ => thn (h.run pins s σ H R I h1) fun u s1 ⟨H1, I1, q⟩ => ⟨H1, I1, h2 _ _ q⟩⟩
theorem pe_weak {te' : TE} (h : PE X e te) (w : ∀ σ H Q, te' σ H Q → te σ H Q) : PE X e te' := ⟨fun pins s σ H Q I q => h.run pins s σ H Q I (w σ H Q q)⟩
theorem ps_weak {st : Stmt} {t t' : TS} (h : PS X st t) (w : ∀ D σ H, t' D σ H → t D σ H) : PS X st t' := ⟨fun pins s σ H D I q => h.run pins s σ H D I (w D σ H q)⟩
end
/-- what is wanted of a new object -/
def NewO (o : HO) (H : Hp) (Q : VK) : Prop := ∀ p H', H p = none → Same H H' → H' p = some o → Q (.ref p) H'
theorem NewO.go {o : HO} {H : Hp} {Q : VK} (h : NewO o H Q) : ∀ p, H p = none → Q (.ref p) (upd H p o) := fun p hp => h p _ hp (same_upd hp) upd_same
@[irreducible] def mTup (t : TA) : TE := fun σ H Q => t σ H fun xs H1 => xs.length ≤ 1000 ∧ NewO (.tup xs) H1 Q
@[irreducible] def mLst (t : TA) : TE := fun σ H Q => t σ H fun xs H1 => xs.length ≤ 1000 ∧ NewO (.lst xs) H1 Q
theorem rd_tup {t : TA} {σ : L2.St} {H : Hp} {Q : VK} (h : t σ H fun xs H1 => xs.length ≤ 1000 ∧ NewO (.tup xs) H1 Q) : mTup t σ H Q := by
  unfold mTup
  exact h
theorem rd_lst {t : TA} {σ : L2.St} {H : Hp} {Q : VK} (h : t σ H fun xs H1 => xs.length ≤ 1000 ∧ NewO (.lst xs) H1 Q) : mLst t σ H Q := by
  unfold mLst
  exact h
@[irreducible] def mCat (K : PySem.W.Frag) : R2 := fun x y H Q => ∃ l b xs zs, x = .ref l ∧ y = .ref b ∧ H l = some (.lst xs) ∧ H b = some (.lst zs) ∧ xs.length + zs.length ≤ 1000000 ∧ NewO (.lst (xs ++ zs)) H Q
theorem rd_cat {K : PySem.W.Frag} {l b : Addr} {xs zs : List V} {H : Hp} {Q : VK} (h1 : H l = some (.lst xs)) (h2 : H b = some (.lst zs)) (hz : xs.length + zs.length ≤ 1000000) (h : NewO (.lst (xs ++ zs)) H Q) : mCat K (.ref l) (.ref b) H Q := by
  unfold mCat
  exact ⟨l, b, xs, zs, rfl, rfl, h1, h2, hz, h⟩
@[irreducible] def mRep : R2 := fun x y H Q => ∃ l k xs, x = .ref l ∧ y = .int k ∧ H l = some (.lst xs) ∧ 0 ≤ k ∧ k ≤ 100000 ∧ xs.length * k.toNat ≤ 1000000 ∧ NewO (.lst (List.replicate k.toNat xs).flatten) H Q
@[irreducible] def mSlL (K : PySem.W.Frag) : V → Option Int → Option Int → Hp → VK → Prop := fun x lo hi H Q => ∃ a xs, x = .ref a ∧ SqL K H a xs ∧ NewO (.lst (cutV xs lo hi)) H Q
theorem rd_sl {K : PySem.W.Frag} {a : Addr} {xs : List V} {lo hi : Option Int} {H : Hp} {Q : VK} (h1 : SqL K H a xs) (h : NewO (.lst (cutV xs lo hi)) H Q) : mSlL K (.ref a) lo hi H Q := by
  unfold mSlL
  exact ⟨a, xs, rfl, h1, h⟩
@[irreducible] def mListOf (K : PySem.W.Frag) : List V → Hp → VK → Prop := fun xs H Q => ∃ p ys, xs = [.ref p] ∧ (SqL K H p ys ∨ SqT K H p ys) ∧ NewO (.lst ys) H Q
theorem rd_list {K : PySem.W.Frag} {a : Addr} {xs : List V} {H : Hp} {Q : VK} (h1 : SqL K H a xs) (h : NewO (.lst xs) H Q) : mListOf K [.ref a] H Q := by
  unfold mListOf
  exact ⟨a, xs, rfl, .inl h1, h⟩
/-- the elements of a comprehension, one by one: what each gives, the heap grown at most -/
def Elt (te : TE) (σ : L2.St) (H : Hp) (y : V) : Prop := ∀ H', Same H H' → te σ H' fun v H'' => v = y ∧ Same H' H''
@[irreducible] def mLcR1 (ta : TA) (j : Nat) (te : TE) (vs : List Nat) : TE := fun σ H Q => ta σ H fun ws H1 => ∃ (n : Int) (f : Nat → V), ws = [.int n] ∧ (-100000 ≤ n ∧ n ≤ 100000) ∧ (∀ i, i < n.toNat → Elt te ((wipe σ vs).set j (some (.int (i : Nat)))) H1 (f i)) ∧ NewO (.lst ((List.range n.toNat).map f)) H1 Q
theorem rd_lcR1 {ta : TA} {j : Nat} {te : TE} {vs : List Nat} {σ : L2.St} {H : Hp} {Q : VK} (h : ta σ H fun ws H1 => ∃ (n : Int) (f : Nat → V), ws = [.int n] ∧ (-100000 ≤ n ∧ n ≤ 100000) ∧ (∀ i, i < n.toNat → Elt te ((wipe σ vs).set j (some (.int (i : Nat)))) H1 (f i)) ∧ NewO (.lst ((List.range n.toNat).map f)) H1 Q) : mLcR1 ta j te vs σ H Q := by
  unfold mLcR1
  exact h
@[irreducible] def mLcL (K : PySem.W.Frag) (tl : TE) (j : Nat) (te : TE) (vs : List Nat) : TE := fun σ H Q => tl σ H fun x H1 => ∃ (a : Addr) (xs : List V) (f : V → V), x = .ref a ∧ SqL K H1 a xs ∧ xs.length ≤ 100000 ∧ (∀ y, y ∈ xs → Elt te ((wipe σ vs).set j (some y)) H1 (f y)) ∧ NewO (.lst (xs.map f)) H1 Q
theorem rd_lcL {K : PySem.W.Frag} {tl : TE} {j : Nat} {te : TE} {vs : List Nat} {σ : L2.St} {H : Hp} {Q : VK} (h : tl σ H fun x H1 => ∃ (a : Addr) (xs : List V) (f : V → V), x = .ref a ∧ SqL K H1 a xs ∧ xs.length ≤ 100000 ∧ (∀ y, y ∈ xs → Elt te ((wipe σ vs).set j (some y)) H1 (f y)) ∧ NewO (.lst (xs.map f)) H1 Q) : mLcL K tl j te vs σ H Q := by
  unfold mLcL
  exact h
theorem wipe_set {σ : L2.St} {vs : List Nat} {j : Nat} {x : Option V} (hj : vs = [j]) : wipe ((wipe σ vs).set j x) vs = wipe σ vs := by
  subst hj
  show ((σ.set j none).set j x).set j none = σ.set j none
  rw [List.set_set, List.set_set]
section
variable {X : Cx} {e : Expr} {es : List Expr} {te : TE} {t ta : TA} {tt : TT} {pos : Pos}
theorem pe_tupM {x1} (h : PA X es t) : PE X (.Tuple es x1 pos) (mTup t) := pe_weak (pe_tup (pa_c h)) fun σ H Q q => by
  unfold mTup at q
  exact ⟨_, q, fun xs H1 r => ⟨sz (Nat.le_trans r.1 (by decide)), r.2.go⟩⟩
theorem pe_lstM (h : PA X es t) : PE X (.List es pos) (mLst t) := pe_weak (pe_lst (pa_c h)) fun σ H Q q => by
  unfold mLst at q
  exact ⟨_, q, fun xs H1 r => ⟨sz (Nat.le_trans r.1 (by decide)), r.2.go⟩⟩
theorem op_catM : OpR X (binaryOp .Add) (mCat X.K) := fun pins s σ H x y v u Q I rx ry q => op_cat pins s σ H x y v u Q I rx ry (by
  unfold mCat at q
  obtain ⟨l, b, xs, zs, e1, e2, h1, h2, hz, h⟩ := q
  exact ⟨l, b, xs, zs, e1, e2, h1, h2, sz hz, h.go⟩)
theorem sl_listM : SlR X (mSlL X.K) := fun pins s σ H x v vl vu lo hi sl Q I rx hs pl pu q => sl_list pins s σ H x v vl vu lo hi sl Q I rx hs pl pu (by
  unfold mSlL at q
  obtain ⟨a, xs, e1, h1, h⟩ := q
  exact ⟨a, xs, e1, h1, h.go⟩)
theorem call_listM : CallR X (.type "list") (mListOf X.K) := fun pins s σ H xs us Q I r q => call_list_of pins s σ H xs us Q I r (by
  unfold mListOf at q
  obtain ⟨a, xs, e1, h1, h⟩ := q
  exact ⟨a, xs, e1, h1, h.go⟩)
/-- [e for x in range(n)] -/
theorem lcR1_of {ta : TA} {j : Nat} {te : TE} {vs : List Nat} {σ : L2.St} {H : Hp} {Q : VK} (hj : vs = [j]) (q : mLcR1 ta j te vs σ H Q) : tLc (iRng1 (cTA ta)) (gName j) tYes (cTE te) vs σ H Q := by
  unfold mLcR1 at q
  refine ⟨_, q, fun ws H1 r => ?_⟩
  obtain ⟨n, f, rfl, hn, he, hq⟩ := r
  obtain ⟨hn0, hn⟩ := hn
  have big : (2 : Int) ^ 62 = 4611686018427387904 := by decide
  refine ⟨n, rfl, by omega, by omega, fun D hD => ?_⟩
  refine lc_range (lo := 0) (n := n.toNat) (fun i H' => Same H1 H' ∧ H' D = some (.lst ((List.range i).map f))) ⟨same_upd hD, upd_same⟩ (fun i H' hi p => ⟨wipe_set hj, ?_⟩) fun H' p => hq D H' hD p.1 p.2
  show cTE te ((wipe σ vs).set j (some (.int (0 + (i : Int))))) H' _
  rw [Int.zero_add]
  refine ⟨_, he i hi H' p.1, fun y H'' r => ?_⟩
  obtain ⟨rfl, s2⟩ := r
  refine ⟨_, s2 _ _ p.2, szl (by rw [List.length_map, List.length_range]; omega), same_mut (p.1.trans s2) hD, ?_⟩
  rw [upd_same, List.range_succ, List.map_append]
  rfl
theorem take_snoc {α : Type} {l : List α} {i : Nat} {x : α} (h : l[i]? = some x) : l.take (i + 1) = l.take i ++ [x] := by
  rw [List.take_add_one, h]
  rfl
/-- [e for x in xs] -/
theorem lcL_of {K : PySem.W.Frag} {tl : TE} {j : Nat} {te : TE} {vs : List Nat} {σ : L2.St} {H : Hp} {Q : VK} (hj : vs = [j]) (q : mLcL K tl j te vs σ H Q) : tLc (iList K (cTE tl)) (gName j) tYes (cTE te) vs σ H Q := by
  unfold mLcL at q
  refine ⟨_, q, fun x H1 r => ?_⟩
  obtain ⟨a, xs, f, rfl, hx, hn, he, hq⟩ := r
  refine ⟨a, rfl, ⟨xs, hx⟩, fun D hD => ?_⟩
  refine lc_list (xs := xs) (fun i H' => Same H1 H' ∧ H' D = some (.lst ((xs.take i).map f))) ⟨same_upd hD, upd_same⟩ (fun i H' _ p => p.1.seq hx) (fun i y H' hi p => ⟨wipe_set hj, ?_⟩) fun H' p => hq D H' hD p.1 (by rw [p.2, List.take_length])
  have hy : y ∈ xs := List.mem_of_getElem? hi
  have hl : i < xs.length := (List.getElem?_eq_some_iff.mp hi).1
  show cTE te ((wipe σ vs).set j (some y)) H' _
  refine ⟨_, he y hy H' p.1, fun z H'' r => ?_⟩
  obtain ⟨rfl, s2⟩ := r
  refine ⟨_, s2 _ _ p.2, szl (by rw [List.length_map, List.length_take]; omega), same_mut (p.1.trans s2) hD, ?_⟩
  rw [upd_same, take_snoc hi, List.map_append]
  rfl
theorem pe_lcR1 {elt : Expr} {scope : Scope} {j : Nat} {x : Str} {a : Expr} {p p2 xpos : Pos} (hc : X.calm = true) (hN : X.N.Nodup) (hg : Gl X "range") (hm : X.mg "range" = none) (ha : PA X [a] ta) (ok : BlkOk X.N X.env.scope scope [(x, j)])
    (hgt : ∀ (s : Shared) (H : Hp) (C : Addr) (cl : List (Str × Addr)) (fp : List Addr), PG (X.blk s H scope (compEnvC scope cl C X.env) fp) (.Name x xpos) (gName j))
    (he : ∀ (s : Shared) (H : Hp) (C : Addr) (cl : List (Str × Addr)) (fp : List Addr), PE (X.blk s H scope (compEnvC scope cl C X.env) fp) elt te)
    (hs : starEach [a] X.env = [(false, eval a X.env)] := by rfl) (hs2 : ∀ y, foldedSetIterable (.Call (.Name "range" p) [a] [] p2) X.env y = pure y := by intro _; rfl) :
    PE X (.ListComp elt [⟨.Name x xpos, .Call (.Name "range" p) [a] [] p2, [], 0⟩] scope pos) (mLcR1 ta j te [j]) :=
  pe_weak (pe_lc hc hN (pi_range1 hg hm (pa_c ha) hs) ok hgt (fun _ _ _ _ _ => pts_nil) (fun s H C cl fp => pe_c (he s H C cl fp)) hs2) fun _ _ _ q => lcR1_of rfl q
theorem pe_lcL {elt it : Expr} {scope : Scope} {j : Nat} {x : Str} {xpos : Pos} (hc : X.calm = true) (hN : X.N.Nodup) {tl : TE} (ha : PE X it tl) (ok : BlkOk X.N X.env.scope scope [(x, j)])
    (hgt : ∀ (s : Shared) (H : Hp) (C : Addr) (cl : List (Str × Addr)) (fp : List Addr), PG (X.blk s H scope (compEnvC scope cl C X.env) fp) (.Name x xpos) (gName j))
    (he : ∀ (s : Shared) (H : Hp) (C : Addr) (cl : List (Str × Addr)) (fp : List Addr), PE (X.blk s H scope (compEnvC scope cl C X.env) fp) elt te) (hs2 : ∀ y, foldedSetIterable it X.env y = pure y := by intro _; rfl) :
    PE X (.ListComp elt [⟨.Name x xpos, it, [], 0⟩] scope pos) (mLcL X.K tl j te [j]) :=
  pe_weak (pe_lc hc hN (pi_list (pe_c ha)) ok hgt (fun _ _ _ _ _ => pts_nil) (fun s H C cl fp => pe_c (he s H C cl fp)) hs2) fun _ _ _ q => lcL_of rfl q
theorem ps_setLcR1 {i : Nat} {y : Str} {py spos : Pos} {elt : Expr} {scope : Scope} {j : Nat} {x : Str} {a : Expr} {p p2 xpos : Pos} (hc : X.calm = true) (hN : X.N.Nodup) (hy : X.N[i]? = some y) (hyl : X.env.scope.names.lookup y = some .local)
    (hsw : swapsWith (.ListComp elt [⟨.Name x xpos, .Call (.Name "range" p) [a] [] p2, [], 0⟩] scope pos) (some (.Name y py)) spos.line X.env = pure true) (hg : Gl X "range") (hm : X.mg "range" = none) (ha : PA X [a] ta) (ok : BlkOk X.N X.env.scope scope [(x, j)])
    (hgt : ∀ (s : Shared) (H : Hp) (C : Addr) (cl : List (Str × Addr)) (fp : List Addr), PG (X.blk s H scope (compEnvC scope cl C X.env) fp) (.Name x xpos) (gName j))
    (he : ∀ (s : Shared) (H : Hp) (C : Addr) (cl : List (Str × Addr)) (fp : List Addr), PE (X.blk s H scope (compEnvC scope cl C X.env) fp) elt te)
    (hs : starEach [a] X.env = [(false, eval a X.env)] := by rfl) (hs2 : ∀ y, foldedSetIterable (.Call (.Name "range" p) [a] [] p2) X.env y = pure y := by intro _; rfl) :
    PS X (.Assign [.Name y py] (.ListComp elt [⟨.Name x xpos, .Call (.Name "range" p) [a] [] p2, [], 0⟩] scope pos) spos) (tAsg (mLcR1 ta j te [j]) (gName i)) :=
  ps_weak (ps_setLc hc hN hy hyl hsw (pi_range1 hg hm (pa_c ha) hs) ok hgt (fun _ _ _ _ _ => pts_nil) (fun s H C cl fp => pe_c (he s H C cl fp)) hs2) fun _ _ _ q => lcR1_of rfl q
theorem ps_setLcL {i : Nat} {y : Str} {py spos : Pos} {elt it : Expr} {scope : Scope} {j : Nat} {x : Str} {xpos : Pos} {tl : TE} (hc : X.calm = true) (hN : X.N.Nodup) (hy : X.N[i]? = some y) (hyl : X.env.scope.names.lookup y = some .local)
    (hsw : swapsWith (.ListComp elt [⟨.Name x xpos, it, [], 0⟩] scope pos) (some (.Name y py)) spos.line X.env = pure true) (ha : PE X it tl) (ok : BlkOk X.N X.env.scope scope [(x, j)])
    (hgt : ∀ (s : Shared) (H : Hp) (C : Addr) (cl : List (Str × Addr)) (fp : List Addr), PG (X.blk s H scope (compEnvC scope cl C X.env) fp) (.Name x xpos) (gName j))
    (he : ∀ (s : Shared) (H : Hp) (C : Addr) (cl : List (Str × Addr)) (fp : List Addr), PE (X.blk s H scope (compEnvC scope cl C X.env) fp) elt te) (hs2 : ∀ y, foldedSetIterable it X.env y = pure y := by intro _; rfl) :
    PS X (.Assign [.Name y py] (.ListComp elt [⟨.Name x xpos, it, [], 0⟩] scope pos) spos) (tAsg (mLcL X.K tl j te [j]) (gName i)) :=
  ps_weak (ps_setLc hc hN hy hyl hsw (pi_list (pe_c ha)) ok hgt (fun _ _ _ _ _ => pts_nil) (fun s H C cl fp => pe_c (he s H C cl fp)) hs2) fun _ _ _ q => lcL_of rfl q
/-! ### loops that stop the walk -/
@[irreducible] def mForR1 (ta : TA) (j : Nat) (tb : TS) : TS := fun D σ H => ta σ H fun ws H1 => ∃ (n : Int) (Pv : Nat → L2.St → Hp → Prop), ws = [.int n] ∧ (-100000 ≤ n ∧ n ≤ 100000) ∧ Pv 0 σ H1 ∧
  (∀ i σ' H', i < n.toNat → Pv i σ' H' → tb { D with nx := Pv (i + 1), ct := Pv (i + 1), bk := D.nx } (σ'.set j (some (.int (i : Nat)))) H') ∧ ∀ σ' H', Pv n.toNat σ' H' → D.nx σ' H'
theorem rd_forR1 {ta : TA} {j : Nat} {tb : TS} {D : Ends} {σ : L2.St} {H : Hp} (h : ta σ H fun ws H1 => ∃ (n : Int) (Pv : Nat → L2.St → Hp → Prop), ws = [.int n] ∧ (-100000 ≤ n ∧ n ≤ 100000) ∧ Pv 0 σ H1 ∧
  (∀ i σ' H', i < n.toNat → Pv i σ' H' → tb { D with nx := Pv (i + 1), ct := Pv (i + 1), bk := D.nx } (σ'.set j (some (.int (i : Nat)))) H') ∧ ∀ σ' H', Pv n.toNat σ' H' → D.nx σ' H') : mForR1 ta j tb D σ H := by
  unfold mForR1
  exact h
theorem forR1_of {ta : TA} {j : Nat} {tb : TS} {D : Ends} {σ : L2.St} {H : Hp} (q : mForR1 ta j tb D σ H) : tFor (iRng1 (cTA ta)) (gName j) tb D σ H := by
  unfold mForR1 at q
  refine ⟨_, q, fun ws H1 r => ?_⟩
  obtain ⟨n, Pv, rfl, ⟨hn0, hn⟩, h0, hs, hd⟩ := r
  have big : (2 : Int) ^ 62 = 4611686018427387904 := by decide
  refine ⟨n, rfl, by omega, by omega, for_range (lo := 0) (n := n.toNat) Pv h0 (fun i σ' H' hi p => ?_) hd⟩
  show tb _ (σ'.set j (some (.int (0 + (i : Int))))) H'
  rw [Int.zero_add]
  exact hs i σ' H' hi p
theorem ps_forR1 {j : Nat} {x : Str} {a : Expr} {body : List Stmt} {tb : TS} {p p2 xpos : Pos} (hp : PassesOwn (model X.prog X.w) X.A X.env X.xe) (hc : X.calm = true) (hg : Gl X "range") (hm : X.mg "range" = none) (ha : PA X [a] ta) (hgt : PG X (.Name x xpos) (gName j)) (hb : PSs X body tb)
    (hs : starEach [a] X.env = [(false, eval a X.env)] := by rfl) (hs2 : ∀ y, foldedSetIterable (.Call (.Name "range" p) [a] [] p2) X.env y = pure y := by intro _; rfl) : PS X (.For (.Name x xpos) (.Call (.Name "range" p) [a] [] p2) body [] pos) (mForR1 ta j tb) :=
  ps_weak (ps_for hp hc (pi_range1 hg hm (pa_c ha) hs) hgt hb hs2) fun _ _ _ q => forR1_of q
@[irreducible] def mForR2 (ta : TA) (j : Nat) (tb : TS) : TS := fun D σ H => ta σ H fun ws H1 => ∃ (lo n : Int) (Pv : Nat → L2.St → Hp → Prop), ws = [.int lo, .int n] ∧ (-100000 ≤ lo ∧ lo ≤ 100000 ∧ -100000 ≤ n ∧ n ≤ 100000) ∧ Pv 0 σ H1 ∧
  (∀ i σ' H', i < (n - lo).toNat → Pv i σ' H' → tb { D with nx := Pv (i + 1), ct := Pv (i + 1), bk := D.nx } (σ'.set j (some (.int (lo + (i : Int))))) H') ∧ ∀ σ' H', Pv (n - lo).toNat σ' H' → D.nx σ' H'
theorem rd_forR2 {ta : TA} {j : Nat} {tb : TS} {D : Ends} {σ : L2.St} {H : Hp} (h : ta σ H fun ws H1 => ∃ (lo n : Int) (Pv : Nat → L2.St → Hp → Prop), ws = [.int lo, .int n] ∧ (-100000 ≤ lo ∧ lo ≤ 100000 ∧ -100000 ≤ n ∧ n ≤ 100000) ∧ Pv 0 σ H1 ∧
  (∀ i σ' H', i < (n - lo).toNat → Pv i σ' H' → tb { D with nx := Pv (i + 1), ct := Pv (i + 1), bk := D.nx } (σ'.set j (some (.int (lo + (i : Int))))) H') ∧ ∀ σ' H', Pv (n - lo).toNat σ' H' → D.nx σ' H') : mForR2 ta j tb D σ H := by
  unfold mForR2
  exact h
theorem ps_forR2 {j : Nat} {x : Str} {a b : Expr} {body : List Stmt} {tb : TS} {p p2 xpos : Pos} (hp : PassesOwn (model X.prog X.w) X.A X.env X.xe) (hc : X.calm = true) (hg : Gl X "range") (hm : X.mg "range" = none) (ha : PA X [a, b] ta) (hgt : PG X (.Name x xpos) (gName j)) (hb : PSs X body tb)
    (hs : starEach [a, b] X.env = [(false, eval a X.env), (false, eval b X.env)] := by rfl) (hs3 : starEach [b] X.env = [(false, eval b X.env)] := by rfl) (hs2 : ∀ y, foldedSetIterable (.Call (.Name "range" p) [a, b] [] p2) X.env y = pure y := by intro _; rfl) :
    PS X (.For (.Name x xpos) (.Call (.Name "range" p) [a, b] [] p2) body [] pos) (mForR2 ta j tb) :=
  ps_weak (ps_for hp hc (pi_range2 hg hm (pa_c ha) hs hs3) hgt hb hs2) fun D σ H q => by
    unfold mForR2 at q
    refine ⟨_, q, fun ws H1 r => ?_⟩
    obtain ⟨lo, n, Pv, rfl, ⟨h1, h2, h3, h4⟩, h0, hs, hd⟩ := r
    have big : (2 : Int) ^ 62 = 4611686018427387904 := by decide
    exact ⟨lo, n, rfl, ⟨by omega, by omega, by omega, by omega⟩, for_range (lo := lo) (n := (n - lo).toNat) Pv h0 (fun i σ' H' hi p => hs i σ' H' hi p) hd⟩
/-- for x in xs -/
@[irreducible] def mForL (K : PySem.W.Frag) (tl : TE) (j : Nat) (tb : TS) : TS := fun D σ H => tl σ H fun x H1 => ∃ (a : Addr) (xs : List V) (Pv : Nat → L2.St → Hp → Prop), x = .ref a ∧ SqL K H1 a xs ∧ Pv 0 σ H1 ∧ (∀ i σ' H', i ≤ xs.length → Pv i σ' H' → SqL K H' a xs) ∧
  (∀ i y σ' H', xs[i]? = some y → Pv i σ' H' → tb { D with nx := Pv (i + 1), ct := Pv (i + 1), bk := D.nx } (σ'.set j (some y)) H') ∧ ∀ σ' H', Pv xs.length σ' H' → D.nx σ' H'
theorem rd_forL {K : PySem.W.Frag} {tl : TE} {j : Nat} {tb : TS} {D : Ends} {σ : L2.St} {H : Hp} (h : tl σ H fun x H1 => ∃ (a : Addr) (xs : List V) (Pv : Nat → L2.St → Hp → Prop), x = .ref a ∧ SqL K H1 a xs ∧ Pv 0 σ H1 ∧ (∀ i σ' H', i ≤ xs.length → Pv i σ' H' → SqL K H' a xs) ∧
  (∀ i y σ' H', xs[i]? = some y → Pv i σ' H' → tb { D with nx := Pv (i + 1), ct := Pv (i + 1), bk := D.nx } (σ'.set j (some y)) H') ∧ ∀ σ' H', Pv xs.length σ' H' → D.nx σ' H') : mForL K tl j tb D σ H := by
  unfold mForL
  exact h
theorem ps_forL {j : Nat} {x : Str} {it : Expr} {body : List Stmt} {tb : TS} {tl : TE} {xpos : Pos} (hp : PassesOwn (model X.prog X.w) X.A X.env X.xe) (hc : X.calm = true) (ha : PE X it tl) (hgt : PG X (.Name x xpos) (gName j)) (hb : PSs X body tb)
    (hs2 : ∀ y, foldedSetIterable it X.env y = pure y := by intro _; rfl) : PS X (.For (.Name x xpos) it body [] pos) (mForL X.K tl j tb) :=
  ps_weak (ps_for hp hc (pi_list (pe_c ha)) hgt hb hs2) fun D σ H q => by
    unfold mForL at q
    refine ⟨_, q, fun x H1 r => ?_⟩
    obtain ⟨a, xs, Pv, rfl, hx, h0, hl, hs, hd⟩ := r
    exact ⟨a, rfl, ⟨xs, hx⟩, for_list (xs := xs) Pv h0 hl (fun i y σ' H' hi p => hs i y σ' H' hi p) hd⟩
/-- for .. in xs, the target of any form -/
@[irreducible] def mForG (K : PySem.W.Frag) (tl : TE) (g : TG) (tb : TS) : TS := fun D σ H => tl σ H fun x H1 => ∃ (a : Addr) (xs : List V) (Pv : Nat → L2.St → Hp → Prop), x = .ref a ∧ SqL K H1 a xs ∧ Pv 0 σ H1 ∧ (∀ i σ' H', i ≤ xs.length → Pv i σ' H' → SqL K H' a xs) ∧
  (∀ i y σ' H', xs[i]? = some y → Pv i σ' H' → g y σ' H' fun σ2 H2 => tb { D with nx := Pv (i + 1), ct := Pv (i + 1), bk := D.nx } σ2 H2) ∧ ∀ σ' H', Pv xs.length σ' H' → D.nx σ' H'
theorem rd_forG {K : PySem.W.Frag} {tl : TE} {g : TG} {tb : TS} {D : Ends} {σ : L2.St} {H : Hp} (h : tl σ H fun x H1 => ∃ (a : Addr) (xs : List V) (Pv : Nat → L2.St → Hp → Prop), x = .ref a ∧ SqL K H1 a xs ∧ Pv 0 σ H1 ∧ (∀ i σ' H', i ≤ xs.length → Pv i σ' H' → SqL K H' a xs) ∧
  (∀ i y σ' H', xs[i]? = some y → Pv i σ' H' → g y σ' H' fun σ2 H2 => tb { D with nx := Pv (i + 1), ct := Pv (i + 1), bk := D.nx } σ2 H2) ∧ ∀ σ' H', Pv xs.length σ' H' → D.nx σ' H') : mForG K tl g tb D σ H := by
  unfold mForG
  exact h
theorem ps_forG {tg it : Expr} {body : List Stmt} {g : TG} {tb : TS} {tl : TE} (hp : PassesOwn (model X.prog X.w) X.A X.env X.xe) (hc : X.calm = true) (ha : PE X it tl) (hgt : PG X tg g) (hb : PSs X body tb)
    (hs2 : ∀ y, foldedSetIterable it X.env y = pure y := by intro _; rfl) : PS X (.For tg it body [] pos) (mForG X.K tl g tb) :=
  ps_weak (ps_for hp hc (pi_list (pe_c ha)) hgt hb hs2) fun D σ H q => by
    unfold mForG at q
    refine ⟨_, q, fun x H1 r => ?_⟩
    obtain ⟨a, xs, Pv, rfl, hx, h0, hl, hs, hd⟩ := r
    exact ⟨a, rfl, ⟨xs, hx⟩, for_list (xs := xs) Pv h0 hl (fun i y σ' H' hi p => hs i y σ' H' hi p) hd⟩
/-- for x, y in zip(xs, ys), lists of one length -/
@[irreducible] def mForZ (K : PySem.W.Frag) (ta : TA) (i1 i2 : Nat) (tb : TS) : TS := fun D σ H => ta σ H fun ws H1 => ∃ (a b : Addr) (xs ys : List V) (Pv : Nat → L2.St → Hp → Prop), ws = [.ref a, .ref b] ∧ SqL K H1 a xs ∧ SqL K H1 b ys ∧ xs.length = ys.length ∧ Pv 0 σ H1 ∧ (∀ i σ' H', Pv i σ' H' → SqL K H' a xs ∧ SqL K H' b ys) ∧
  (∀ i x y σ' H' H'', xs[i]? = some x → ys[i]? = some y → Pv i σ' H' → Same H' H'' → tb { D with nx := Pv (i + 1), ct := Pv (i + 1), bk := D.nx } ((σ'.set i1 (some x)).set i2 (some y)) H'') ∧ ∀ σ' H', Pv xs.length σ' H' → D.nx σ' H'
theorem rd_forZ {K : PySem.W.Frag} {ta : TA} {i1 i2 : Nat} {tb : TS} {D : Ends} {σ : L2.St} {H : Hp} (h : ta σ H fun ws H1 => ∃ (a b : Addr) (xs ys : List V) (Pv : Nat → L2.St → Hp → Prop), ws = [.ref a, .ref b] ∧ SqL K H1 a xs ∧ SqL K H1 b ys ∧ xs.length = ys.length ∧ Pv 0 σ H1 ∧ (∀ i σ' H', Pv i σ' H' → SqL K H' a xs ∧ SqL K H' b ys) ∧
  (∀ i x y σ' H' H'', xs[i]? = some x → ys[i]? = some y → Pv i σ' H' → Same H' H'' → tb { D with nx := Pv (i + 1), ct := Pv (i + 1), bk := D.nx } ((σ'.set i1 (some x)).set i2 (some y)) H'') ∧ ∀ σ' H', Pv xs.length σ' H' → D.nx σ' H') : mForZ K ta i1 i2 tb D σ H := by
  unfold mForZ
  exact h
theorem ps_forZ {e e2 : Expr} {kk : Nat} {p p2 tpos : Pos} {i1 i2 : Nat} {body : List Stmt} {tb : TS} {t1 t2 : Expr} (hp : PassesOwn (model X.prog X.w) X.A X.env X.xe) (hc : X.calm = true) (hg : Gl X "zip") (hm : X.mg "zip" = none) (ha : PA X [e, e2] ta)
    (hgt : PG X (.Tuple [t1, t2] kk tpos) (gTup X.K 2 (gCons (gName i1) (gCons (gName i2) gNil)))) (hb : PSs X body tb)
    (hs : starEach [e, e2] X.env = (false, eval e X.env) :: starEach [e2] X.env := by rfl) (hpl : (backTo p2 (starEach [e2] X.env)).any (·.1) = false := by rfl) (hs2 : ∀ y, foldedSetIterable (.Call (.Name "zip" p) [e, e2] [] p2) X.env y = pure y := by intro _; rfl) :
    PS X (.For (.Tuple [t1, t2] kk tpos) (.Call (.Name "zip" p) [e, e2] [] p2) body [] pos) (mForZ X.K ta i1 i2 tb) :=
  ps_weak (ps_for hp hc (pi_zip hg hm (pa_c ha) hs hpl) hgt hb hs2) fun D σ H q => by
    unfold mForZ at q
    refine ⟨_, q, fun ws H1 r => ?_⟩
    obtain ⟨a, b, xs, ys, Pv, rfl, hx, hy, hl, h0, hq, hs, hd⟩ := r
    refine ⟨a, b, xs, ys, rfl, hx, hy, RZ.for_zipL hl Pv h0 hq (fun i x y T σ' H' h1 h2 p hT => ?_) hd⟩
    exact ⟨T, [x, y], rfl, st_of upd_same, rfl, x, [y], rfl, y, [], rfl, rfl, hs i x y σ' H' _ h1 h2 p (same_upd hT)⟩
end
theorem ite_ei {x y : Int} {A B : Prop} (hc : x = y) (h : A) : if decide (V.int x = V.int y) = true then A else B := ite_t (congrArg V.int hc) h
theorem ite_eif {x y : Int} {A B : Prop} (hc : x ≠ y) (h : B) : if decide (V.int x = V.int y) = true then A else B := ite_f (fun e => hc (V.int.inj e)) h
theorem ite_ni {x y : Int} {A B : Prop} (hc : x = y) (h : B) : if (!decide (V.int x = V.int y)) = true then A else B := ite_nf (congrArg V.int hc) h
theorem ite_nit {x y : Int} {A B : Prop} (hc : x ≠ y) (h : A) : if (!decide (V.int x = V.int y)) = true then A else B := ite_nt (fun e => hc (V.int.inj e)) h
theorem ite_eby {x y : Int} {A B : Prop} (h1 : x = y → A) (h2 : x ≠ y → B) : if decide (V.int x = V.int y) = true then A else B := ite_by (fun e => h1 (V.int.inj e)) (fun n => h2 fun e => n (congrArg V.int e))
theorem ite_enby {x y : Int} {A B : Prop} (h1 : x ≠ y → A) (h2 : x = y → B) : if (!decide (V.int x = V.int y)) = true then A else B := ite_nby (fun n => h1 fun e => n (congrArg V.int e)) (fun e => h2 (V.int.inj e))

/-! ### branches that stop the walk -/
@[irreducible] def Br (b : Bool) (A B : Prop) : Prop := if b = true then A else B
section
variable {b : Bool} {A B : Prop}
theorem Br.un (h : Br b A B) : if b = true then A else B := by
  unfold Br at h
  exact h
theorem br_of (h : if b = true then A else B) : Br b A B := by
  unfold Br
  exact h
theorem br_T (h : A) : Br true A B := br_of (iteT h)
theorem br_F (h : B) : Br false A B := br_of (iteF h)
theorem br_nT (h : A) : Br (!false) A B := br_of (iteT h)
theorem br_nF (h : B) : Br (!true) A B := br_of (iteF h)
theorem br_t {c : Prop} [Decidable c] (hc : c) (h : A) : Br (decide c) A B := br_of (ite_t hc h)
theorem br_f {c : Prop} [Decidable c] (hc : ¬ c) (h : B) : Br (decide c) A B := br_of (ite_f hc h)
theorem br_nt {c : Prop} [Decidable c] (hc : ¬ c) (h : A) : Br (!decide c) A B := br_of (ite_nt hc h)
theorem br_nf {c : Prop} [Decidable c] (hc : c) (h : B) : Br (!decide c) A B := br_of (ite_nf hc h)
theorem br_by {c : Prop} [Decidable c] (h1 : c → A) (h2 : ¬ c → B) : Br (decide c) A B := br_of (ite_by h1 h2)
theorem br_nby {c : Prop} [Decidable c] (h1 : ¬ c → A) (h2 : c → B) : Br (!decide c) A B := br_of (ite_nby h1 h2)
theorem br_ei {x y : Int} (hc : x = y) (h : A) : Br (decide (V.int x = V.int y)) A B := br_of (ite_ei hc h)
theorem br_eif {x y : Int} (hc : x ≠ y) (h : B) : Br (decide (V.int x = V.int y)) A B := br_of (ite_eif hc h)
theorem br_ni {x y : Int} (hc : x = y) (h : B) : Br (!decide (V.int x = V.int y)) A B := br_of (ite_ni hc h)
theorem br_nit {x y : Int} (hc : x ≠ y) (h : A) : Br (!decide (V.int x = V.int y)) A B := br_of (ite_nit hc h)
theorem br_eby {x y : Int} (h1 : x = y → A) (h2 : x ≠ y → B) : Br (decide (V.int x = V.int y)) A B := br_of (ite_eby h1 h2)
theorem br_enby {x y : Int} (h1 : x ≠ y → A) (h2 : x = y → B) : Br (!decide (V.int x = V.int y)) A B := br_of (ite_enby h1 h2)
theorem br_b (h1 : b = true → A) (h2 : b = false → B) : Br b A B := by
  cases b with
  | true => exact br_T (h1 rfl)
  | false => exact br_F (h2 rfl)
end
def mIfS (c : TT) (t u : TS) : TS := fun D σ H => c σ H fun b H1 => Br b (t D σ H1) (u D σ H1)
def mIf (c : TT) (ta tb : TE) : TE := fun σ H Q => c σ H fun b H1 => Br b (ta σ H1 Q) (tb σ H1 Q)
def mAnd (t u : TT) : TT := fun σ H Q => t σ H fun c H1 => Br c (u σ H1 Q) (Q false H1)
def mOr (t u : TT) : TT := fun σ H Q => t σ H fun c H1 => Br c (Q true H1) (u σ H1 Q)
def mAndV (ta tb : TE) : TE := fun σ H Q => ta σ H fun x H1 => ∃ c, x = .bl c ∧ Br c (tb σ H1 Q) (Q (.bl false) H1)
def mOrV (ta tb : TE) : TE := fun σ H Q => ta σ H fun x H1 => ∃ c, x = .bl c ∧ Br c (Q (.bl true) H1) (tb σ H1 Q)
def mChain (r r' : R2) (ta tb tc : TE) : TE := fun σ H Q => ta σ H fun x H1 => tb σ H1 fun y H2 => r x y H2 fun z H3 => ∃ k, z = .bl k ∧ Br k (tc σ H3 fun w' H4 => r' y w' H4 Q) (Q (.bl false) H3)
def mNot (t : TT) : TT := fun σ H Q => t σ H fun c H1 => Q (!c) H1
def cR2 (r : R2) : R2 := fun x y H Q => ∃ R : VK, r x y H R ∧ ∀ v H', R v H' → Q v H'
section
variable {X : Cx} {e a b c : Expr} {ta tb tc : TE} {tt tA tB' : TT} {pos : Pos} {t u : TS} {rest : List Expr}
theorem pw_weak {tt' : TT} (h : PW X e tt) (w : ∀ σ H Q, tt' σ H Q → tt σ H Q) : PW X e tt' := ⟨fun wh pins s σ H Q I q => h.run wh pins s σ H Q I (w σ H Q q)⟩
theorem pt_weak {tt' : TT} (h : PT X e tt) (w : ∀ σ H Q, tt' σ H Q → tt σ H Q) : PT X e tt' := ⟨fun pins s σ H Q I q => h.run pins s σ H Q I (w σ H Q q)⟩
theorem opr_c {f : Value → Value → Sem Value} {r : R2} (h : OpR X f r) : OpR X f (cR2 r) := fun pins s σ H x y v u Q I rx ry ⟨R, h1, h2⟩ => thn (h pins s σ H x y v u R I rx ry h1) fun w s1 ⟨z, H1, I1, rz, q⟩ => ⟨z, H1, I1, rz, h2 _ _ q⟩
theorem ps_ifM {bs us : List Stmt} (hc : PT X c tt) (ha : PSs X bs t) (hb : PSs X us u) : PS X (.If c bs us pos) (mIfS tt t u) := ps_weak (ps_if (pt_c hc) ha hb) fun D σ H q => ⟨_, q, fun b H1 r => r.un⟩
theorem pe_ifM (hc : PT X c tt) (ha : PE X a ta) (hb : PE X b tb) : PE X (.IfExp c a b pos) (mIf tt ta tb) := pe_weak (pe_ifExp (pt_c hc) ha hb) fun σ H Q q => ⟨_, q, fun b H1 r => r.un⟩
theorem pw_andM (ha : PT X a tA) (hb : PW X (.BoolOp .And (b :: rest) pos) tB') : PW X (.BoolOp .And (a :: b :: rest) pos) (mAnd tA tB') := pw_weak (pw_and (pt_c ha) hb) fun σ H Q q => ⟨_, q, fun b H1 r => r.un⟩
theorem pw_orM (ha : PT X a tA) (hb : PW X (.BoolOp .Or (b :: rest) pos) tB') : PW X (.BoolOp .Or (a :: b :: rest) pos) (mOr tA tB') := pw_weak (pw_or (pt_c ha) hb) fun σ H Q q => ⟨_, q, fun b H1 r => r.un⟩
theorem pe_andM (ha : PE X a ta) (hb : PE X (.BoolOp .And (b :: rest) pos) tb) : PE X (.BoolOp .And (a :: b :: rest) pos) (mAndV ta tb) := pe_weak (pe_and (pe_c ha) hb) fun σ H Q q => ⟨_, q, fun v H1 ⟨c, e, r⟩ => ⟨c, e, r.un⟩⟩
theorem pe_orM (ha : PE X a ta) (hb : PE X (.BoolOp .Or (b :: rest) pos) tb) : PE X (.BoolOp .Or (a :: b :: rest) pos) (mOrV ta tb) := pe_weak (pe_or (pe_c ha) hb) fun σ H Q q => ⟨_, q, fun v H1 ⟨c, e, r⟩ => ⟨c, e, r.un⟩⟩
theorem pe_chainM {op op' : CmpOp} {r r' : R2} (ho : OpR X (compareOp op) r) (ho' : OpR X (compareOp op') r') (ha : PE X a ta) (hb : PE X b tb) (hc : PE X c tc) (hm : lastMarks [op, op'] [b, c] = false := by with_unfolding_all rfl) : PE X (.Compare a [op, op'] [b, c] pos) (mChain r r' ta tb tc) :=
  pe_weak (pe_chain (opr_c ho) ho' (pe_c ha) (pe_c hb) hc hm) fun σ H Q q => ⟨_, q, fun x H1 q1 => ⟨_, q1, fun y H2 q2 => ⟨_, q2, fun z H3 ⟨k, e, r⟩ => ⟨k, e, r.un⟩⟩⟩⟩
theorem pt_chainM {op op' : CmpOp} {r r' : R2} (ho : OpR X (compareOp op) r) (ho' : OpR X (compareOp op') r') (ha : PE X a ta) (hb : PE X b tb) (hc : PE X c tc) (hm : lastMarks [op, op'] [b, c] = false := by with_unfolding_all rfl) : PT X (.Compare a [op, op'] [b, c] pos) (tTest (mChain r r' ta tb tc)) :=
  pt_weak (pt_chain (opr_c ho) ho' (pe_c ha) (pe_c hb) hc hm) fun σ H Q q => ⟨_, q, fun x H1 q1 => ⟨_, q1, fun y H2 q2 => ⟨_, q2, fun z H3 ⟨k, e, r⟩ => ⟨k, e, r.un⟩⟩⟩⟩
end
/-! ### the operators, told without a redex -/
def mAdd : R2 := fun x y H Q => ∃ i j, x = .int i ∧ y = .int j ∧ Q (.int (i + j)) H
def mSub : R2 := fun x y H Q => ∃ i j, x = .int i ∧ y = .int j ∧ Q (.int (i - j)) H
def mMul : R2 := fun x y H Q => ∃ i j, x = .int i ∧ y = .int j ∧ CMul i j ∧ Q (.int (i * j)) H
def mMulW : R2 := fun x y H Q => ∃ i j, x = .int i ∧ y = .int j ∧ CMulW i j ∧ Q (.int (i * j)) H
def mDiv : R2 := fun x y H Q => ∃ i j, x = .int i ∧ y = .int j ∧ CDiv i j ∧ Q (.int (i / j)) H
def mDivW : R2 := fun x y H Q => ∃ i j, x = .int i ∧ y = .int j ∧ CDivW i j ∧ Q (.int (i / j)) H
def mMod : R2 := fun x y H Q => ∃ i j, x = .int i ∧ y = .int j ∧ 0 < j ∧ Q (.int (i % j)) H
def mPow : R2 := fun x y H Q => ∃ i j, x = .int i ∧ y = .int j ∧ CPow i j ∧ Q (.int (i ^ j.toNat)) H
def mShl1 : R2 := fun x y H Q => ∃ j, x = .int 1 ∧ y = .int j ∧ (0 ≤ j ∧ j ≤ 1000000) ∧ Q (.int (2 ^ j.toNat)) H
def mShl : R2 := fun x y H Q => ∃ i j, x = .int i ∧ y = .int j ∧ CShl i j ∧ Q (.int (i * 2 ^ j.toNat)) H
def mShr : R2 := fun x y H Q => ∃ i j, x = .int i ∧ y = .int j ∧ 0 ≤ j ∧ Q (.int (i / 2 ^ j.toNat)) H
def mAndI : R2 := fun x y H Q => ∃ i j, x = .int i ∧ y = .int j ∧ Q (.int (Builtin.bitAnd i j)) H
def mXorI : R2 := fun x y H Q => ∃ i j, x = .int i ∧ y = .int j ∧ Q (.int (Builtin.bitXor i j)) H
def mLt : R2 := fun x y H Q => ∃ i j, x = .int i ∧ y = .int j ∧ Q (.bl (decide (i < j))) H
def mLe : R2 := fun x y H Q => ∃ i j, x = .int i ∧ y = .int j ∧ Q (.bl (decide (i ≤ j))) H
def mGt : R2 := fun x y H Q => ∃ i j, x = .int i ∧ y = .int j ∧ Q (.bl (decide (j < i))) H
def mGe : R2 := fun x y H Q => ∃ i j, x = .int i ∧ y = .int j ∧ Q (.bl (decide (j ≤ i))) H
section
variable {X : Cx}
theorem op_addM : OpR X (binaryOp .Add) mAdd := op_add
theorem op_subM : OpR X (binaryOp .Sub) mSub := op_sub
theorem op_mulM : OpR X (binaryOp .Mult) mMul := op_mul
theorem op_mulWM : OpR X (binaryOp .Mult) mMulW := op_mulW
theorem op_fdivM : OpR X (binaryOp .FloorDiv) mDiv := op_fdiv
theorem op_fdivWM : OpR X (binaryOp .FloorDiv) mDivW := op_fdivW
theorem op_modM : OpR X (binaryOp .Mod) mMod := op_mod
theorem op_powM : OpR X (binaryOp .Pow) mPow := op_pow
theorem op_shl1M : OpR X (binaryOp .LShift) mShl1 := fun pins s σ H x y v u Q I rx ry ⟨j, e1, e2, hj, q⟩ => op_shl pins s σ H x y v u Q I rx ry ⟨1, j, e1, e2, ⟨hj.1, hj.2, by decide⟩, by
  show Q (.int (1 * 2 ^ j.toNat)) H
  rw [Int.one_mul]
  exact q⟩
theorem op_shlM : OpR X (binaryOp .LShift) mShl := op_shlW
theorem op_shrM : OpR X (binaryOp .RShift) mShr := op_shr
theorem op_bandM : OpR X (binaryOp .BitAnd) mAndI := op_and
theorem op_bxorM : OpR X (binaryOp .BitXor) mXorI := op_xor
theorem op_ltM : OpR X (compareOp .Lt) mLt := op_lt
theorem op_leM : OpR X (compareOp .LtE) mLe := op_le
theorem op_gtM : OpR X (compareOp .Gt) mGt := op_gt
theorem op_geM : OpR X (compareOp .GtE) mGe := op_ge
end

theorem two_pos (k : Nat) : (0 : Int) < 2 ^ k := Int.pow_pos (by decide)

@[irreducible] def mIsi (K : PySem.W.Frag) : List V → Hp → VK → Prop := rIsi K
theorem call_isiM {X : Cx} : CallR X (.builtin "isinstance") (mIsi X.K) := fun pins s σ H xs us Q I r q => call_isi pins s σ H xs us Q I r (by
  unfold mIsi at q
  exact q)
section
variable {K : PySem.W.Frag} {H : Hp} {Q : VK}
theorem rd_isiIB {i : Int} (h : Q (.bl false) H) : mIsi K [.int i, .ty "bool"] H Q := by
  unfold mIsi
  exact ⟨_, _, _, _, false, rfl, ClsV.ty _, TyX.base (TyOf.int _), by rfl, h⟩
theorem rd_isiII {i : Int} (h : Q (.bl true) H) : mIsi K [.int i, .ty "int"] H Q := by
  unfold mIsi
  exact ⟨_, _, _, _, true, rfl, ClsV.ty _, TyX.base (TyOf.int _), by rfl, h⟩
theorem rd_isiBB {b : Bool} (h : Q (.bl true) H) : mIsi K [.bl b, .ty "bool"] H Q := by
  unfold mIsi
  exact ⟨_, _, _, _, true, rfl, ClsV.ty _, TyX.base (TyOf.bl _), by rfl, h⟩
theorem rd_isiTT {a : Addr} {xs : List V} (e : H a = some (.tup xs)) (h : Q (.bl true) H) : mIsi K [.ref a, .ty "tuple"] H Q := by
  unfold mIsi
  exact ⟨_, _, _, _, true, rfl, ClsV.ty _, TyX.base (TyOf.tup e), by rfl, h⟩
theorem rd_isiLL {a : Addr} {xs : List V} (e : H a = some (.lst xs)) (h : Q (.bl true) H) : mIsi K [.ref a, .ty "list"] H Q := by
  unfold mIsi
  exact ⟨_, _, _, _, true, rfl, ClsV.ty _, TyX.base (TyOf.lst e), by rfl, h⟩
end

/-! ### equal data -/
def Sh (n : Nat) (d : PyData) : Prop := d.canLay0 = true ∧ d.depth ≤ n
def ShA (n : Nat) (ds : List PyData) : Prop := PyData.canLayAll0 ds = true ∧ PyData.depthAll ds ≤ n
theorem sh_int {i : Int} {n : Nat} : Sh n (.int i) := ⟨rfl, Nat.zero_le _⟩
theorem sh_bl {i : Bool} {n : Nat} : Sh n (.bool i) := ⟨rfl, Nat.zero_le _⟩
theorem sh_non {n : Nat} : Sh n .none := ⟨rfl, Nat.zero_le _⟩
theorem sh_str {x : Str} {n : Nat} (h : PyData.canLay0 (.str x) = true) : Sh n (.str x) := ⟨h, Nat.zero_le _⟩
theorem sh_nil {n : Nat} : ShA n [] := ⟨rfl, Nat.zero_le _⟩
theorem sh_cons {n : Nat} {d : PyData} {ds : List PyData} (h : Sh n d) (k : ShA n ds) : ShA n (d :: ds) := by
  refine ⟨?_, ?_⟩
  · show (d.canLay0 && PyData.canLayAll0 ds) = true
    rw [h.1, k.1]
    rfl
  · show max d.depth (PyData.depthAll ds) ≤ n
    have := h.2
    have := k.2
    omega
theorem sh_lst {n : Nat} {ds : List PyData} (h : ShA n ds) : Sh (n + 1) (.list ds) := ⟨h.1, Nat.succ_le_succ h.2⟩
theorem sh_tup {n : Nat} {ds : List PyData} (h : ShA n ds) : Sh (n + 1) (.tuple ds) := ⟨h.1, Nat.succ_le_succ h.2⟩
theorem sh_map {α : Type} {n : Nat} {f : α → PyData} (h : ∀ x, Sh n (f x)) : ∀ l : List α, ShA n (l.map f)
  | [] => sh_nil
  | x :: r => sh_cons (h x) (sh_map h r)
theorem sh_app {n : Nat} : ∀ {ds es : List PyData}, ShA n ds → ShA n es → ShA n (ds ++ es)
  | [], _, _, k => k
  | d :: r, es, h, k => by
    have h1 : (d.canLay0 && PyData.canLayAll0 r) = true := h.1
    have h2 : max d.depth (PyData.depthAll r) ≤ n := h.2
    rw [Bool.and_eq_true] at h1
    exact sh_cons ⟨h1.1, by omega⟩ (sh_app ⟨h1.2, by omega⟩ k)
theorem Sh.shaped {n : Nat} {d : PyData} (h : Sh n d) (hn : n ≤ 64 := by decide) : SeqAt.shaped d = true := by
  unfold SeqAt.shaped
  rw [h.1, decide_eq_true (Nat.le_trans h.2 hn)]
  rfl
theorem sh_ints {n : Nat} (l : List Int) : ShA n (l.map PyData.int) := sh_map (fun _ => sh_int) l
section
variable {K : PySem.W.Frag} {H : Hp} {Q : VK} {x y : V}
theorem dpa_ints : ∀ l : List Int, DpAll K H (l.map V.int) (l.map PyData.int)
  | [] => .nil
  | i :: r => .cons (.int i) (dpa_ints r)
theorem dp_ints {a : Addr} {l : List Int} (h : SqL K H a (l.map V.int)) : Dp K H (.ref a) (.list (l.map PyData.int)) := .lst h (dpa_ints l)
@[irreducible] def mEqD (K : PySem.W.Frag) : R2 := rEqD K
@[irreducible] def mNeD (K : PySem.W.Frag) : R2 := rNeD K
theorem rd_eqS {n : Nat} (d : PyData) (h1 : Dp K H x d) (h2 : Dp K H y d) (hs : Sh n d) (h : Q (.bl true) H) (hn : n ≤ 64 := by decide) : mEqD K x y H Q := by
  unfold mEqD
  exact ⟨d, d, h1, h2, hs.shaped hn, hs.shaped hn, by rw [PySem.SeqAt.eqv_refl d hs.1]; exact h⟩
theorem rd_neS {n : Nat} (d : PyData) (h1 : Dp K H x d) (h2 : Dp K H y d) (hs : Sh n d) (h : Q (.bl false) H) (hn : n ≤ 64 := by decide) : mNeD K x y H Q := by
  unfold mNeD
  exact ⟨d, d, h1, h2, hs.shaped hn, hs.shaped hn, by rw [PySem.SeqAt.eqv_refl d hs.1]; exact h⟩
/-- of any two: the answer is that of the data -/
theorem rd_eqA {n m : Nat} (d e : PyData) (h1 : Dp K H x d) (h2 : Dp K H y e) (hs : Sh n d) (hs2 : Sh m e) (h : Q (.bl (PyData.eqv d e)) H) (hn : n ≤ 64 := by decide) (hm : m ≤ 64 := by decide) : mEqD K x y H Q := by
  unfold mEqD
  exact ⟨d, e, h1, h2, hs.shaped hn, hs2.shaped hm, h⟩
theorem rd_neA {n m : Nat} (d e : PyData) (h1 : Dp K H x d) (h2 : Dp K H y e) (hs : Sh n d) (hs2 : Sh m e) (h : Q (.bl (!PyData.eqv d e)) H) (hn : n ≤ 64 := by decide) (hm : m ≤ 64 := by decide) : mNeD K x y H Q := by
  unfold mNeD
  exact ⟨d, e, h1, h2, hs.shaped hn, hs2.shaped hm, h⟩
end
section
variable {X : Cx}
theorem op_eqDM (hu : X.A.units + 64 < cLine) : OpR X (compareOp .Eq) (mEqD X.K) := fun pins s σ H x y v u Q I rx ry q => op_eqD hu pins s σ H x y v u Q I rx ry (by
  unfold mEqD at q
  exact q)
theorem op_neDM (hu : X.A.units + 64 < cLine) : OpR X (compareOp .NotEq) (mNeD X.K) := fun pins s σ H x y v u Q I rx ry q => op_neD hu pins s σ H x y v u Q I rx ry (by
  unfold mNeD at q
  exact q)
end
/-! ### one-step readings that know their heap -/
@[irreducible] def mIxL (K : PySem.W.Frag) : R2 := rIxL K
theorem ix_listM {X : Cx} : IxR X (mIxL X.K) := fun value slice pins s σ H x y v u Q I rx ry q e => ix_list value slice pins s σ H x y v u Q I rx ry (by
  unfold mIxL at q
  exact q) e
@[irreducible] def mIxT (K : PySem.W.Frag) : R2 := rIxT K
theorem ix_tupM {X : Cx} : IxR X (mIxT X.K) := fun value slice pins s σ H x y v u Q I rx ry q e => ix_tup value slice pins s σ H x y v u Q I rx ry (by
  unfold mIxT at q
  exact q) e
section
variable {K : PySem.W.Frag} {H : Hp} {Q : VK} {a : Addr} {xs : List V} {k : Int} {v : V}
theorem rd_ixL (h : SqL K H a xs) (ha : atI xs k = some v) (q : Q v H) : mIxL K (.ref a) (.int k) H Q := by
  unfold mIxL
  exact ⟨a, xs, k, v, rfl, rfl, h, ha, q⟩
theorem rd_ixT (h : SqT K H a xs) (ha : atI xs k = some v) (q : Q v H) : mIxT K (.ref a) (.int k) H Q := by
  unfold mIxT
  exact ⟨a, xs, k, v, rfl, rfl, h, ha, q⟩
theorem rd_ixI {ns : List Int} (h : SqL K H a (ns.map V.int)) (h0 : 0 ≤ k) (h1 : k < (ns.length : Int)) (q : Q (.int (ns.getD k.toNat 0)) H) : mIxL K (.ref a) (.int k) H Q := rd_ixL h (at_int h0 h1) q
end
@[irreducible] def mLen (K : PySem.W.Frag) : List V → Hp → VK → Prop := fun xs H Q => ∃ p ys, xs = [.ref p] ∧ (SqL K H p ys ∨ SqT K H p ys) ∧ Q (.int ys.length) H
theorem call_lenM {X : Cx} : CallR X (.builtin "len") (mLen X.K) := fun pins s σ H xs us Q I r q => call_len_seq pins s σ H xs us Q I r (by
  unfold mLen at q
  exact q)
theorem rd_len {K : PySem.W.Frag} {H : Hp} {Q : VK} {a : Addr} {xs : List V} (h : SqL K H a xs) (q : Q (.int xs.length) H) : mLen K [.ref a] H Q := by
  unfold mLen
  exact ⟨a, xs, rfl, .inl h, q⟩
theorem rd_lenI {K : PySem.W.Frag} {H : Hp} {Q : VK} {a : Addr} {ns : List Int} (h : SqL K H a (ns.map V.int)) (q : Q (.int ns.length) H) : mLen K [.ref a] H Q := rd_len h (by rw [List.length_map]; exact q)
theorem rd_lenT {K : PySem.W.Frag} {H : Hp} {Q : VK} {a : Addr} {xs : List V} (h : SqT K H a xs) (q : Q (.int xs.length) H) : mLen K [.ref a] H Q := by
  unfold mLen
  exact ⟨a, xs, rfl, .inr h, q⟩
/-- xs.append(e) -/
@[irreducible] def mApp (x y : V) (H : Hp) (Q : VK) : Prop := ∃ l xs, x = .ref l ∧ H l = some (.lst xs) ∧ xs.length < 1000000 ∧ Q .non (upd H l (.lst (xs ++ [y])))
def mAppE (to te : TE) : TE := fun σ H Q => to σ H fun x H1 => ∃ l xs, x = .ref l ∧ H1 l = some (.lst xs) ∧ te σ H1 fun y H2 => mApp x y H2 Q
theorem rd_app {l : Addr} {xs : List V} {y : V} {H : Hp} {Q : VK} (h : H l = some (.lst xs)) (hz : xs.length < 1000000) (q : Q .non (upd H l (.lst (xs ++ [y])))) : mApp (.ref l) y H Q := by
  unfold mApp
  exact ⟨l, xs, rfl, h, hz, q⟩
theorem pe_app {X : Cx} {o e : Expr} {to te : TE} {apos cpos : Pos} (ho : PE X o to) (he : PE X e te) (hbase : attributeBase o "append" X.env (eval o X.env) = eval o X.env := by rfl)
    (hfew : ((backTo cpos (starEach [e] X.env)).all (fun x => !x.1) && (backToKw cpos (keywordEach [] X.env)).all (fun x => x.1.isSome)
      && decide ([e].length + ([] : List Keyword).length + (if ([] : List Keyword).isEmpty then 0 else 1) < 30)) = true := by rfl)
    (hline : (apos.endLine == cpos.line) = true := by rfl) (hs : starEach [e] X.env = (false, eval e X.env) :: starEach [] X.env := by rfl) (hplain : (backTo cpos (starEach [] X.env)).any (·.1) = false := by rfl) :
    PE X (.Call (.Attribute o "append" apos) [e] [] cpos) (mAppE to te) :=
  pe_weak (pe_bm PySem.F.plainAttrs_list PySem.F.slot_list_append PySem.F.type_list_append mt_append (pe_c ho) (pa_cons (pe_c he) pa_nil hs) hbase hfew hline hs hplain) fun σ H Q q => by
    refine ⟨_, q, fun x H1 r => ?_⟩
    obtain ⟨l, xs, rfl, h, r⟩ := r
    refine ⟨Or.inl ⟨rfl, _, SqL.of h⟩, _, r, fun y H2 r2 => ?_⟩
    unfold mApp at r2
    obtain ⟨l2, ys, e2, h2, hz, q2⟩ := r2
    exact ⟨l2, ys, y, e2, rfl, h2, szl hz, q2⟩
/-- o[i] = e, o a list -/
@[irreducible] def mSetL : V → V → V → Hp → (Hp → Prop) → Prop := rSetL
theorem set_listM {X : Cx} : PSet X mSetL := fun pins s σ H o i v uo ui uv Q I ro ri rv q => set_list pins s σ H o i v uo ui uv Q I ro ri rv (by
  unfold mSetL at q
  exact q)
theorem rd_setL {l : Addr} {xs : List V} {k : Int} {y : V} {H : Hp} {Q : Hp → Prop} (h : H l = some (.lst xs)) (h0 : 0 ≤ k) (h1 : k < (xs.length : Int)) (q : Q (upd H l (.lst (xs.set k.toNat y)))) : mSetL (.ref l) (.int k) y H Q := by
  unfold mSetL
  refine ⟨l, xs, k, k.toNat, rfl, rfl, h, ?_, q⟩
  unfold ixN
  first
    | (rw [if_pos h0, if_pos (by omega)]; done)
    | (rw [if_neg (by omega), if_pos (by omega)]; done)
    | simp [show ¬ k < 0 by omega, h0, h1]
/-- what a loop keeps of its own list: all else as it was -/
def But (p : Addr) (H H' : Hp) : Prop := ∀ b o, b ≠ p → H b = some o → H' b = some o

@[irreducible] def mSum (K : PySem.W.Frag) : List V → Hp → VK → Prop := rSum K
theorem call_sumM {X : Cx} (hc : X.calm = true) : CallR X (.builtin "sum") (mSum X.K) := fun pins s σ H xs us Q I r q => cr_sum hc pins s σ H xs us Q I r (by
  unfold mSum at q
  exact q)
theorem rd_sum {K : PySem.W.Frag} {H : Hp} {Q : VK} {a : Addr} {ns : List Int} (h : SqL K H a (ns.map V.int)) (q : Q (.int ns.sum) H) : mSum K [.ref a] H Q := by
  unfold mSum
  exact ⟨a, ns, rfl, h, q⟩

/-- isinstance(e, C), e the error that the suite holds, whatever its class -/
def mIsE (K : PySem.W.Frag) (cls : Value) (d : Option Addr) (a : Addr) : List V → Hp → VK → Prop := fun xs H Q => ∃ (D C : Addr) (b : Bool), xs = [.ref a, .ref C] ∧ cls = .ref D ∧ d = none ∧ ExcC K D ∧ PySem.W.kitOne K (.ref D) (.ref C) = some b ∧ Q (.bl b) H
theorem call_isEM {X : Cx} {a : Addr} {oe : Obj} {cls : Value} {d : Option Addr} {pn : List (Addr × Obj)} (hz : Zc cls d oe) (hf : ∃ vs, oe.data = .fields vs) : CallR (X.suite a ((a, oe) :: pn)) (.builtin "isinstance") (mIsE X.K cls d a) := by
  intro pins s σ H xs us Q I r h
  obtain ⟨D, C, b, rfl, rfl, rfl, hD, hk, q⟩ := h
  exact call_isE hD hz hf pins s σ H [.ref a, .ref C] us Q I r ⟨.ref C, .ref C, b, rfl, fun u hu => hu, hk, q⟩
theorem kit_same {K : PySem.W.Frag} {D : Addr} : PySem.W.kitOne K (.ref D) (.ref D) = some true := by
  unfold PySem.W.kitOne
  rw [if_pos (by simp)]

/-! ### constants, extend, repetition, min of three -/
theorem pe_gint {X : Cx} {x : Str} {n : Int} {pos : Pos} (hg : Gl X x) (hm : ∃ t, X.mg x = some (.int n t)) (hd : (x == ("__debug__" : Str)) = false := by decide) : PE X (.Name x pos) (tC (.int n)) := by
  obtain ⟨t, hm⟩ := hm
  exact pe_glob hg hm ⟨t, rfl⟩ hd
@[irreducible] def mExt (x y : V) (H : Hp) (Q : VK) : Prop := ∃ l b xs zs, x = .ref l ∧ y = .ref b ∧ H l = some (.lst xs) ∧ H b = some (.lst zs) ∧ xs.length + zs.length ≤ 1000000 ∧ Q .non (upd H l (.lst (xs ++ zs)))
def mExtE (to te : TE) : TE := fun σ H Q => to σ H fun x H1 => ∃ l xs, x = .ref l ∧ H1 l = some (.lst xs) ∧ te σ H1 fun y H2 => mExt x y H2 Q
theorem rd_ext {l b : Addr} {xs zs : List V} {H : Hp} {Q : VK} (h : H l = some (.lst xs)) (hb : H b = some (.lst zs)) (hz : xs.length + zs.length ≤ 1000000) (q : Q .non (upd H l (.lst (xs ++ zs)))) : mExt (.ref l) (.ref b) H Q := by
  unfold mExt
  exact ⟨l, b, xs, zs, rfl, rfl, h, hb, hz, q⟩
theorem pe_ext {X : Cx} {o e : Expr} {to te : TE} {apos cpos : Pos} (ho : PE X o to) (he : PE X e te) (hbase : attributeBase o "extend" X.env (eval o X.env) = eval o X.env := by rfl)
    (hfew : ((backTo cpos (starEach [e] X.env)).all (fun x => !x.1) && (backToKw cpos (keywordEach [] X.env)).all (fun x => x.1.isSome)
      && decide ([e].length + ([] : List Keyword).length + (if ([] : List Keyword).isEmpty then 0 else 1) < 30)) = true := by rfl)
    (hline : (apos.endLine == cpos.line) = true := by rfl) (hs : starEach [e] X.env = (false, eval e X.env) :: starEach [] X.env := by rfl) (hplain : (backTo cpos (starEach [] X.env)).any (·.1) = false := by rfl) :
    PE X (.Call (.Attribute o "extend" apos) [e] [] cpos) (mExtE to te) :=
  pe_weak (pe_bm PySem.F.plainAttrs_list PySem.F.slot_list_extend PySem.F.type_list_extend mt_extend (pe_c ho) (pa_cons (pe_c he) pa_nil hs) hbase hfew hline hs hplain) fun σ H Q q => by
    refine ⟨_, q, fun x H1 r => ?_⟩
    obtain ⟨l, xs, rfl, h, r⟩ := r
    refine ⟨Or.inl ⟨rfl, _, SqL.of h⟩, _, r, fun y H2 r2 => ?_⟩
    unfold mExt at r2
    obtain ⟨l2, b2, ys, zs, e2, rfl, h2, h3, hz, q2⟩ := r2
    exact ⟨l2, b2, ys, zs, e2, rfl, h2, h3, sz hz, q2⟩
theorem op_repM {X : Cx} : OpR X (binaryOp .Mult) mRep := fun pins s σ H x y v u Q I rx ry q => op_rep pins s σ H x y v u Q I rx ry (by
  unfold mRep at q
  obtain ⟨l, k, xs, e1, e2, h1, h0, hk, hz, h⟩ := q
  have big : (2 : Int) ^ 63 = 9223372036854775808 := by decide
  exact ⟨l, k, xs, e1, e2, h1, by omega, by omega, sz hz, h.go⟩)
theorem rd_rep {l : Addr} {k : Int} {xs : List V} {H : Hp} {Q : VK} (h1 : H l = some (.lst xs)) (h0 : 0 ≤ k) (hk : k ≤ 100000) (hz : xs.length * k.toNat ≤ 1000000) (h : NewO (.lst (List.replicate k.toNat xs).flatten) H Q) : mRep (.ref l) (.int k) H Q := by
  unfold mRep
  exact ⟨l, k, xs, rfl, rfl, h1, h0, hk, hz, h⟩
def mMin3 : List V → Hp → VK → Prop := fun vs H Q => ∃ i j k, vs = [.int i, .int j, .int k] ∧ Q (.int (min (min i j) k)) H
theorem call_min3M {X : Cx} (hc : X.calm = true) : CallR X (.builtin "min") mMin3 := fun pins s σ H xs us Q I r ⟨i, j, k, e, q⟩ => call_min3Nu hc pins s σ H xs us Q I r ⟨_, _, _, _, e, by
  show (Option.map (fun c => if c = true then V.int j else V.int i) (some (decide (j < i)))).bind _ = _
  by_cases h : j < i
  · rw [decide_eq_true h]
    show Option.map (fun c => if c = true then V.int k else V.int j) (some (decide (k < j))) = some (.int (min (min i j) k))
    by_cases h2 : k < j
    · rw [decide_eq_true h2]
      show some (V.int k) = _
      congr 2
      omega
    · rw [decide_eq_false h2]
      show some (V.int j) = _
      congr 2
      omega
  · rw [decide_eq_false h]
    show Option.map (fun c => if c = true then V.int k else V.int i) (some (decide (k < i))) = some (.int (min (min i j) k))
    by_cases h2 : k < i
    · rw [decide_eq_true h2]
      show some (V.int k) = _
      congr 2
      omega
    · rw [decide_eq_false h2]
      show some (V.int i) = _
      congr 2
      omega, q⟩
/-! ### comprehensions whose elements are new tuples -/
def EltT (te : TE) (σ : L2.St) (H : Hp) (xs : List V) : Prop := ∀ H', Same H H' → te σ H' fun v H'' => Same H' H'' ∧ ∃ p, v = .ref p ∧ H'' p = some (.tup xs)
def NewTs (n : Nat) (f : Nat → List V) (H : Hp) (Q : VK) : Prop := ∀ (D : Addr) (H' : Hp) (ps : List Addr), H D = none → Same H H' → H' D = some (.lst (ps.map V.ref)) → ps.length = n → (∀ i p, ps[i]? = some p → H' p = some (.tup (f i))) → Q (.ref D) H'
@[irreducible] def mLcTR3 (ta : TA) (j : Nat) (te : TE) (vs : List Nat) : TE := fun σ H Q => ta σ H fun ws H1 => ∃ (lo hi c : Int) (n : Nat) (f : Nat → List V), ws = [.int lo, .int hi, .int c] ∧ RgC lo hi c n ∧ n ≤ 1000 ∧ (∀ i, i < n → EltT te ((wipe σ vs).set j (some (.int (lo + (i : Nat) * c)))) H1 (f i)) ∧ NewTs n f H1 Q
theorem rd_lcTR3 {ta : TA} {j : Nat} {te : TE} {vs : List Nat} {σ : L2.St} {H : Hp} {Q : VK} (h : ta σ H fun ws H1 => ∃ (lo hi c : Int) (n : Nat) (f : Nat → List V), ws = [.int lo, .int hi, .int c] ∧ RgC lo hi c n ∧ n ≤ 1000 ∧ (∀ i, i < n → EltT te ((wipe σ vs).set j (some (.int (lo + (i : Nat) * c)))) H1 (f i)) ∧ NewTs n f H1 Q) : mLcTR3 ta j te vs σ H Q := by
  unfold mLcTR3
  exact h
@[irreducible] def mLcTL (K : PySem.W.Frag) (tl : TE) (j : Nat) (te : TE) (vs : List Nat) : TE := fun σ H Q => tl σ H fun x H1 => ∃ (a : Addr) (xs : List V) (f : Nat → List V), x = .ref a ∧ SqL K H1 a xs ∧ xs.length ≤ 1000 ∧ (∀ i y, xs[i]? = some y → EltT te ((wipe σ vs).set j (some y)) H1 (f i)) ∧ NewTs xs.length f H1 Q
theorem rd_lcTL {K : PySem.W.Frag} {tl : TE} {j : Nat} {te : TE} {vs : List Nat} {σ : L2.St} {H : Hp} {Q : VK} (h : tl σ H fun x H1 => ∃ (a : Addr) (xs : List V) (f : Nat → List V), x = .ref a ∧ SqL K H1 a xs ∧ xs.length ≤ 1000 ∧ (∀ i y, xs[i]? = some y → EltT te ((wipe σ vs).set j (some y)) H1 (f i)) ∧ NewTs xs.length f H1 Q) : mLcTL K tl j te vs σ H Q := by
  unfold mLcTL
  exact h
def TsW (H1 : Hp) (D : Addr) (f : Nat → List V) (i : Nat) (H' : Hp) : Prop := Same H1 H' ∧ ∃ ps : List Addr, H' D = some (.lst (ps.map V.ref)) ∧ ps.length = i ∧ ∀ k p, ps[k]? = some p → H' p = some (.tup (f k))
theorem TsW.next {H1 H' H'' : Hp} {D p : Addr} {f : Nat → List V} {i : Nat} (hD : H1 D = none) (w : TsW H1 D f i H') (s : Same H' H'') (hp : H'' p = some (.tup (f i))) : ∃ acc, H'' D = some (.lst acc) ∧ acc.length = i ∧ TsW H1 D f (i + 1) (upd H'' D (.lst (acc ++ [.ref p]))) := by
  obtain ⟨sm, ps, hd, hl, ht⟩ := w
  have hd2 := s _ _ hd
  have ne : ∀ {q : Addr} {xs : List V}, H'' q = some (.tup xs) → q ≠ D := fun {q xs} h e => by
    rw [e, hd2] at h
    cases h
  refine ⟨_, hd2, by rw [List.length_map, hl], same_mut (sm.trans s) hD, ps ++ [p], ?_, by rw [List.length_append, List.length_singleton, hl], fun k q hk => ?_⟩
  · rw [upd_same, List.map_append]
    rfl
  · by_cases h : k < ps.length
    · rw [List.getElem?_append_left h] at hk
      have := s _ _ (ht k q hk)
      rw [upd_ne (ne this)]
      exact this
    · rw [List.getElem?_append_right (by omega)] at hk
      have h0 : k - ps.length = 0 := by
        cases e : k - ps.length with
        | zero => rfl
        | succ m => rw [e] at hk; simp at hk
      rw [h0] at hk
      have e : p = q := Option.some.inj hk
      have ek : k = i := by omega
      subst e
      rw [ek, upd_ne (ne hp)]
      exact hp
section
variable {X : Cx} {te : TE} {ta : TA} {pos : Pos}
theorem lcTR3_of {ta : TA} {j : Nat} {te : TE} {vs : List Nat} {σ : L2.St} {H : Hp} {Q : VK} (hj : vs = [j]) (q : mLcTR3 ta j te vs σ H Q) : tLc (iRng3 (cTA ta)) (gName j) tYes (cTE te) vs σ H Q := by
  unfold mLcTR3 at q
  refine ⟨_, q, fun ws H1 r => ?_⟩
  obtain ⟨lo, hi, c, n, f, rfl, hr, hn, he, hq⟩ := r
  refine ⟨lo, hi, c, n, rfl, hr, fun D hD => ?_⟩
  refine ⟨fun i m H' => m = n - i ∧ i ≤ n ∧ TsW H1 D f i H', ⟨n, rfl, Nat.zero_le _, same_upd hD, [], upd_same, rfl, fun k p h => by cases h⟩, ?_⟩
  rintro i m H' ⟨rfl, hi, w⟩
  by_cases hlt : i < n
  · refine .inr ⟨hlt, TsW H1 D f (i + 1), fun H2 w2 => ⟨n - (i + 1), by omega, rfl, hlt, w2⟩, fun x H2 y => ?_⟩
    obtain ⟨e, y⟩ := y
    subst e
    subst y
    refine ⟨wipe_set hj, _, he i hlt _ w.1, fun v H'' r => ?_⟩
    obtain ⟨s, p, rfl, hp⟩ := r
    obtain ⟨acc, h1, h2, h3⟩ := w.next hD s hp
    exact ⟨acc, h1, szl (by omega), h3⟩
  · have e : i = n := by omega
    subst e
    obtain ⟨sm, ps, hd, hl, ht⟩ := w
    exact .inl ⟨Nat.le_refl _, hq D H' ps hD sm hd hl ht⟩
theorem lcTL_of {K : PySem.W.Frag} {tl : TE} {j : Nat} {te : TE} {vs : List Nat} {σ : L2.St} {H : Hp} {Q : VK} (hj : vs = [j]) (q : mLcTL K tl j te vs σ H Q) : tLc (iList K (cTE tl)) (gName j) tYes (cTE te) vs σ H Q := by
  unfold mLcTL at q
  refine ⟨_, q, fun x H1 r => ?_⟩
  obtain ⟨a, xs, f, rfl, hx, hn, he, hq⟩ := r
  refine ⟨a, rfl, ⟨xs, hx⟩, fun D hD => ?_⟩
  refine lc_list (xs := xs) (fun i H' => TsW H1 D f i H') ⟨same_upd hD, [], upd_same, rfl, fun k p h => by cases h⟩ (fun i H' _ w => w.1.seq hx) (fun i y H' hi w => ⟨wipe_set hj, _, he i y hi H' w.1, fun v H'' r => ?_⟩) fun H' w => ?_
  · obtain ⟨s, p, rfl, hp⟩ := r
    obtain ⟨acc, h1, h2, h3⟩ := w.next hD s hp
    have hl : i < xs.length := (List.getElem?_eq_some_iff.mp hi).1
    exact ⟨acc, h1, szl (by omega), h3⟩
  · obtain ⟨sm, ps, hd, hl, ht⟩ := w
    exact hq D H' ps hD sm hd hl ht
theorem pe_lcTL {elt it : Expr} {scope : Scope} {j : Nat} {x : Str} {xpos : Pos} (hc : X.calm = true) (hN : X.N.Nodup) {tl : TE} (ha : PE X it tl) (ok : BlkOk X.N X.env.scope scope [(x, j)])
    (hgt : ∀ (s : Shared) (H : Hp) (C : Addr) (cl : List (Str × Addr)) (fp : List Addr), PG (X.blk s H scope (compEnvC scope cl C X.env) fp) (.Name x xpos) (gName j))
    (he : ∀ (s : Shared) (H : Hp) (C : Addr) (cl : List (Str × Addr)) (fp : List Addr), PE (X.blk s H scope (compEnvC scope cl C X.env) fp) elt te) (hs2 : ∀ y, foldedSetIterable it X.env y = pure y := by intro _; rfl) :
    PE X (.ListComp elt [⟨.Name x xpos, it, [], 0⟩] scope pos) (mLcTL X.K tl j te [j]) :=
  pe_weak (pe_lc hc hN (pi_list (pe_c ha)) ok hgt (fun _ _ _ _ _ => pts_nil) (fun s H C cl fp => pe_c (he s H C cl fp)) hs2) fun _ _ _ q => lcTL_of rfl q
theorem ps_setLcTL {i : Nat} {y : Str} {py spos : Pos} {elt it : Expr} {scope : Scope} {j : Nat} {x : Str} {xpos : Pos} {tl : TE} (hc : X.calm = true) (hN : X.N.Nodup) (hy : X.N[i]? = some y) (hyl : X.env.scope.names.lookup y = some .local)
    (hsw : swapsWith (.ListComp elt [⟨.Name x xpos, it, [], 0⟩] scope pos) (some (.Name y py)) spos.line X.env = pure true) (ha : PE X it tl) (ok : BlkOk X.N X.env.scope scope [(x, j)])
    (hgt : ∀ (s : Shared) (H : Hp) (C : Addr) (cl : List (Str × Addr)) (fp : List Addr), PG (X.blk s H scope (compEnvC scope cl C X.env) fp) (.Name x xpos) (gName j))
    (he : ∀ (s : Shared) (H : Hp) (C : Addr) (cl : List (Str × Addr)) (fp : List Addr), PE (X.blk s H scope (compEnvC scope cl C X.env) fp) elt te) (hs2 : ∀ y, foldedSetIterable it X.env y = pure y := by intro _; rfl) :
    PS X (.Assign [.Name y py] (.ListComp elt [⟨.Name x xpos, it, [], 0⟩] scope pos) spos) (tAsg (mLcTL X.K tl j te [j]) (gName i)) :=
  ps_weak (ps_setLc hc hN hy hyl hsw (pi_list (pe_c ha)) ok hgt (fun _ _ _ _ _ => pts_nil) (fun s H C cl fp => pe_c (he s H C cl fp)) hs2) fun _ _ _ q => lcTL_of rfl q
theorem ps_setLcTR3 {i : Nat} {y : Str} {py spos : Pos} {elt : Expr} {scope : Scope} {j : Nat} {x : Str} {a b c : Expr} {p p2 xpos : Pos} (hc : X.calm = true) (hN : X.N.Nodup) (hy : X.N[i]? = some y) (hyl : X.env.scope.names.lookup y = some .local)
    (hsw : swapsWith (.ListComp elt [⟨.Name x xpos, .Call (.Name "range" p) [a, b, c] [] p2, [], 0⟩] scope pos) (some (.Name y py)) spos.line X.env = pure true) (hg : Gl X "range") (hm : X.mg "range" = none) (ha : PA X [a, b, c] ta) (ok : BlkOk X.N X.env.scope scope [(x, j)])
    (hgt : ∀ (s : Shared) (H : Hp) (C : Addr) (cl : List (Str × Addr)) (fp : List Addr), PG (X.blk s H scope (compEnvC scope cl C X.env) fp) (.Name x xpos) (gName j))
    (he : ∀ (s : Shared) (H : Hp) (C : Addr) (cl : List (Str × Addr)) (fp : List Addr), PE (X.blk s H scope (compEnvC scope cl C X.env) fp) elt te)
    (hs : starEach [a, b, c] X.env = (false, eval a X.env) :: starEach [b, c] X.env := by rfl) (hpl : (backTo p2 (starEach [b, c] X.env)).any (·.1) = false := by rfl) (hs2 : ∀ y, foldedSetIterable (.Call (.Name "range" p) [a, b, c] [] p2) X.env y = pure y := by intro _; rfl) :
    PS X (.Assign [.Name y py] (.ListComp elt [⟨.Name x xpos, .Call (.Name "range" p) [a, b, c] [] p2, [], 0⟩] scope pos) spos) (tAsg (mLcTR3 ta j te [j]) (gName i)) :=
  ps_weak (ps_setLc hc hN hy hyl hsw (pi_range3 hg hm (pa_c ha) hs hpl) ok hgt (fun _ _ _ _ _ => pts_nil) (fun s H C cl fp => pe_c (he s H C cl fp)) hs2) fun _ _ _ q => lcTR3_of rfl q
end

/-! ### the same rules within a comprehension: the written part by its own name -/
section
variable {X : Cx} {K : PySem.W.Frag}
theorem ix_listK (h : X.K = K) : IxR X (mIxL K) := h ▸ ix_listM
theorem ix_tupK (h : X.K = K) : IxR X (mIxT K) := h ▸ ix_tupM
theorem call_lenK (h : X.K = K) : CallR X (.builtin "len") (mLen K) := h ▸ call_lenM
end

theorem br_nonI {x : Int} {A B : Prop} (h : B) : Br (decide (V.int x = V.non)) A B := br_f (fun e => by cases e) h
theorem br_nonR {x : Addr} {A B : Prop} (h : B) : Br (decide (V.ref x = V.non)) A B := br_f (fun e => by cases e) h
theorem br_nonN {A B : Prop} (h : A) : Br (decide (V.non = V.non)) A B := br_t rfl h
theorem dec_nonI {x : Int} : decide (V.int x = V.non) = false := decide_eq_false fun e => by cases e
theorem dec_nonR {x : Addr} : decide (V.ref x = V.non) = false := decide_eq_false fun e => by cases e

/-! ### if t: x = e, told once by what x holds behind it -/
@[irreducible] def IfSet (b : Bool) (te : TE) (i : Nat) (D : Ends) (σ : L2.St) (H : Hp) : Prop := ∃ P : V → Hp → Prop, (b = true → te σ H P) ∧ (b = false → ∃ v, σ.set i (some v) = σ ∧ P v H) ∧ ∀ v H', P v H' → D.nx (σ.set i (some v)) H'
theorem rd_ifSet {b : Bool} {te : TE} {i : Nat} {D : Ends} {σ : L2.St} {H : Hp} (P : V → Hp → Prop) (h1 : b = true → te σ H P) (h2 : b = false → ∃ v, σ.set i (some v) = σ ∧ P v H) (k : ∀ v H', P v H' → D.nx (σ.set i (some v)) H') : IfSet b te i D σ H := by
  unfold IfSet
  exact ⟨P, h1, h2, k⟩
def mIfSet (tt : TT) (te : TE) (i : Nat) : TS := fun D σ H => tt σ H fun b H1 => IfSet b te i D σ H1
theorem ps_ifSet {X : Cx} {i : Nat} {x : Str} {c e : Expr} {tt : TT} {te : TE} {pos pos2 pos' : Pos} (hc : PT X c tt) (hN : X.N.Nodup) (hi : X.N[i]? = some x) (hx : Loc X.env.scope x) (he : PE X e te) (hs : swapsWith e (some (.Name x pos')) pos2.line X.env = pure false := by rfl)
    (hf : X.fn x = true ∨ X.env.scope.names.lookup x = some .local := by first | exact .inl rfl | exact .inr rfl | assumption) : PS X (.If c [.Assign [.Name x pos'] e pos2] [] pos) (mIfSet tt te i) :=
  ps_weak (ps_if (pt_c hc) (pss_one (ps_set (i := i) hN hi hx (pe_c he) hs hf)) pss_nil) fun D σ H q => ⟨_, q, fun b H1 r => by
    unfold IfSet at r
    obtain ⟨P, h1, h2, k⟩ := r
    cases b with
    | true => exact iteT ⟨P, h1 rfl, fun v H' p => k v H' p⟩
    | false =>
      obtain ⟨v, e, p⟩ := h2 rfl
      refine iteF ?_
      have := k v H1 p
      rw [e] at this
      exact this⟩
section
variable {X : Cx}
/-- what stands in a list at a whole number, as the store in place reads it -/
theorem get_listM : PGet X (mIxL X.K) := fun pins s σ H x y vx vy Q inv rx ry h => by
  unfold mIxL at h
  obtain ⟨p, xs, k, z, rfl, rfl, hsq, hat, q⟩ := h
  cases rx
  obtain ⟨tk, rfl⟩ := ry
  obtain ⟨its, rel, plain, _⟩ := inv.list hsq
  obtain ⟨j, hj, hget, hn, hlo, hhi⟩ := atI_get hat
  obtain ⟨wv, hwv, relz⟩ := rel.get hget
  have hlen := rel.length
  have h63 := line63
  by_cases hk : 0 ≤ k
  · have ej : k.toNat = j := by
      rw [seqIndex_of hk hhi] at hj
      exact Option.some.inj hj
    exact wpAny_getItem_list plain.isList hk (by omega) (by rw [ej]; simpa using hwv) ⟨z, H, inv, relz, q⟩
  · have ej : (k + (its.toArray.size : Int)).toNat = j := by
      rw [seqIndex_neg (by omega) hlo] at hj
      rw [List.size_toArray, ← hlen]
      exact Option.some.inj hj
    exact wpAny_getItem_list_neg plain.isList (by omega) (by rw [List.size_toArray]; omega) (by omega) (by rw [ej]; simpa using hwv) ⟨z, H, inv, relz, q⟩
end
section
variable {X : Cx} {te : TE} {ta : TA} {pos : Pos}
/-- [(…) for x in range(n)] -/
@[irreducible] def mLcTR1 (ta : TA) (j : Nat) (te : TE) (vs : List Nat) : TE := fun σ H Q => ta σ H fun ws H1 => ∃ (n : Int) (f : Nat → List V), ws = [.int n] ∧ (-100000 ≤ n ∧ n ≤ 100000) ∧ (∀ i, i < n.toNat → EltT te ((wipe σ vs).set j (some (.int (i : Nat)))) H1 (f i)) ∧ NewTs n.toNat f H1 Q
theorem rd_lcTR1 {ta : TA} {j : Nat} {te : TE} {vs : List Nat} {σ : L2.St} {H : Hp} {Q : VK} (h : ta σ H fun ws H1 => ∃ (n : Int) (f : Nat → List V), ws = [.int n] ∧ (-100000 ≤ n ∧ n ≤ 100000) ∧ (∀ i, i < n.toNat → EltT te ((wipe σ vs).set j (some (.int (i : Nat)))) H1 (f i)) ∧ NewTs n.toNat f H1 Q) : mLcTR1 ta j te vs σ H Q := by
  unfold mLcTR1
  exact h
theorem lcTR1_of {ta : TA} {j : Nat} {te : TE} {vs : List Nat} {σ : L2.St} {H : Hp} {Q : VK} (hj : vs = [j]) (q : mLcTR1 ta j te vs σ H Q) : tLc (iRng1 (cTA ta)) (gName j) tYes (cTE te) vs σ H Q := by
  unfold mLcTR1 at q
  refine ⟨_, q, fun ws H1 r => ?_⟩
  obtain ⟨n, f, rfl, ⟨hn0, hn⟩, he, hq⟩ := r
  have big : (2 : Int) ^ 62 = 4611686018427387904 := by decide
  refine ⟨n, rfl, by omega, by omega, fun D hD => ?_⟩
  refine lc_range (lo := 0) (n := n.toNat) (fun i H' => TsW H1 D f i H') ⟨same_upd hD, [], upd_same, rfl, fun k p h => by cases h⟩ (fun i H' hi w => ⟨wipe_set hj, ?_⟩) fun H' w => ?_
  · show cTE te ((wipe σ vs).set j (some (.int (0 + (i : Int))))) H' _
    rw [Int.zero_add]
    refine ⟨_, he i hi H' w.1, fun v H'' r => ?_⟩
    obtain ⟨s, p, rfl, hp⟩ := r
    obtain ⟨acc, h1, h2, h3⟩ := w.next hD s hp
    exact ⟨acc, h1, szl (by omega), h3⟩
  · obtain ⟨sm, ps, hd, hl, ht⟩ := w
    exact hq D H' ps hD sm hd hl ht
theorem ps_setLcTR1 {i : Nat} {y : Str} {py spos : Pos} {elt : Expr} {scope : Scope} {j : Nat} {x : Str} {a : Expr} {p p2 xpos : Pos} (hc : X.calm = true) (hN : X.N.Nodup) (hy : X.N[i]? = some y) (hyl : X.env.scope.names.lookup y = some .local)
    (hsw : swapsWith (.ListComp elt [⟨.Name x xpos, .Call (.Name "range" p) [a] [] p2, [], 0⟩] scope pos) (some (.Name y py)) spos.line X.env = pure true) (hg : Gl X "range") (hm : X.mg "range" = none) (ha : PA X [a] ta) (ok : BlkOk X.N X.env.scope scope [(x, j)])
    (hgt : ∀ (s : Shared) (H : Hp) (C : Addr) (cl : List (Str × Addr)) (fp : List Addr), PG (X.blk s H scope (compEnvC scope cl C X.env) fp) (.Name x xpos) (gName j))
    (he : ∀ (s : Shared) (H : Hp) (C : Addr) (cl : List (Str × Addr)) (fp : List Addr), PE (X.blk s H scope (compEnvC scope cl C X.env) fp) elt te)
    (hs : starEach [a] X.env = [(false, eval a X.env)] := by rfl) (hs2 : ∀ y, foldedSetIterable (.Call (.Name "range" p) [a] [] p2) X.env y = pure y := by intro _; rfl) :
    PS X (.Assign [.Name y py] (.ListComp elt [⟨.Name x xpos, .Call (.Name "range" p) [a] [] p2, [], 0⟩] scope pos) spos) (tAsg (mLcTR1 ta j te [j]) (gName i)) :=
  ps_weak (ps_setLc hc hN hy hyl hsw (pi_range1 hg hm (pa_c ha) hs) ok hgt (fun _ _ _ _ _ => pts_nil) (fun s H C cl fp => pe_c (he s H C cl fp)) hs2) fun _ _ _ q => lcTR1_of rfl q
end
/-! ### a comprehension over any walk, its elements values, some left out -/
def IMono (wi' wi : TI) : Prop := ∀ (σ : L2.St) (H : Hp) (R R' : It → Hp → Prop), (∀ J H', R J H' → R' J H') → wi' σ H R → wi σ H R'
section
variable {K : PySem.W.Frag}
theorem im_zip {ta : TA} : IMono (iZip K ta) (iZip K (cTA ta)) := fun σ H R R' h q => ⟨_, q, fun v H' r => by
  obtain ⟨a, b, xs, ys, e, h1, h2, r⟩ := r
  exact ⟨a, b, xs, ys, e, h1, h2, h _ _ r⟩⟩
theorem im_enum {ta : TA} : IMono (iEnum K ta) (iEnum K (cTA ta)) := fun σ H R R' h q => ⟨_, q, fun v H' r => by
  obtain ⟨a, xs, e, h1, r⟩ := r
  exact ⟨a, xs, e, h1, h _ _ r⟩⟩
theorem im_list {tl : TE} : IMono (iList K tl) (iList K (cTE tl)) := fun σ H R R' h q => ⟨_, q, fun v H' r => by
  obtain ⟨a, e, h1, r⟩ := r
  exact ⟨a, e, h1, h _ _ r⟩⟩
theorem im_tup {tl : TE} : IMono (iTup K tl) (iTup K (cTE tl)) := fun σ H R R' h q => ⟨_, q, fun v H' r => by
  obtain ⟨a, e, h1, r⟩ := r
  exact ⟨a, e, h1, h _ _ r⟩⟩
theorem im_rng1 {ta : TA} : IMono (iRng1 ta) (iRng1 (cTA ta)) := fun σ H R R' h q => ⟨_, q, fun v H' r => by
  obtain ⟨j, e, h1, h2, r⟩ := r
  exact ⟨j, e, h1, h2, h _ _ r⟩⟩
theorem im_rng2 {ta : TA} : IMono (iRng2 ta) (iRng2 (cTA ta)) := fun σ H R R' h q => ⟨_, q, fun v H' r => by
  obtain ⟨i, j, e, h1, r⟩ := r
  exact ⟨i, j, e, h1, h _ _ r⟩⟩
end
/-- the new list at D behind i turns -/
structure LcP (H1 : Hp) (D : Addr) (keep : Nat → Bool) (f : Nat → V) (i : Nat) (H' : Hp) : Prop where
  sm : Same H1 H'
  at' : H' D = some (.lst (((List.range i).filter keep).map f))
def LcN (H1 : Hp) (D : Addr) (keep : Nat → Bool) (f : Nat → V) (i : Nat) (y : V) (H4 : Hp) : Prop := ∃ acc, H4 D = some (.lst acc) ∧ acc.length < sizeLine ∧ LcP H1 D keep f (i + 1) (upd H4 D (.lst (acc ++ [y])))
theorem LcP.put {H1 H' H4 : Hp} {D : Addr} {keep : Nat → Bool} {f : Nat → V} {i : Nat} {y : V} (p : LcP H1 D keep f i H') (hD : H1 D = none) (hi : i < 100000) (s : Same H' H4) (hk : keep i = true) (e : y = f i) : LcN H1 D keep f i y H4 := by
  refine ⟨_, s _ _ p.at', ?_, same_mut (p.sm.trans s) hD, ?_⟩
  · have h1 := List.length_filter_le keep (List.range i)
    rw [List.length_range] at h1
    rw [List.length_map]
    exact szl (by omega)
  · rw [upd_same, List.range_succ, List.filter_append, List.map_append, e]
    have e2 : [i].filter keep = [i] := by
      rw [List.filter_cons, if_pos hk]
      rfl
    rw [e2]
    rfl
theorem LcP.skip {H1 H' H4 : Hp} {D : Addr} {keep : Nat → Bool} {f : Nat → V} {i : Nat} (p : LcP H1 D keep f i H') (s : Same H' H4) (hk : keep i = false) : LcP H1 D keep f (i + 1) H4 := by
  refine ⟨p.sm.trans s, ?_⟩
  rw [s _ _ p.at', List.range_succ, List.filter_append]
  have e2 : [i].filter keep = [] := by
    rw [List.filter_cons, if_neg (by rw [hk]; decide)]
    rfl
  rw [e2, List.append_nil]
@[irreducible] def mLcP (wi : TI) (g : TG) (tt : TT) (te : TE) (vs : List Nat) : TE := fun σ H Q => wi σ H fun J H1 => ∃ (n : Nat) (G : Hp → Prop) (Y : Nat → Hp → V → Hp → Prop) (keep : Nat → Bool) (f : Nat → V), Walk J n G Y ∧ n ≤ 100000 ∧ (∀ H', Same H1 H' → G H') ∧
  (∀ D, H1 D = none → ∀ i x H' H'', i < n → LcP H1 D keep f i H' → Y i H' x H'' → g x (wipe σ vs) H'' fun σ2 H2 => wipe σ2 vs = wipe σ vs ∧ tt σ2 H2 fun b H3 => Br b (te σ2 H3 fun y H4 => LcN H1 D keep f i y H4) (LcP H1 D keep f (i + 1) H3)) ∧ NewO (.lst (((List.range n).filter keep).map f)) H1 Q
theorem rd_lcP {wi : TI} {g : TG} {tt : TT} {te : TE} {vs : List Nat} {σ : L2.St} {H : Hp} {Q : VK} (h : wi σ H fun J H1 => ∃ (n : Nat) (G : Hp → Prop) (Y : Nat → Hp → V → Hp → Prop) (keep : Nat → Bool) (f : Nat → V), Walk J n G Y ∧ n ≤ 100000 ∧ (∀ H', Same H1 H' → G H') ∧
  (∀ D, H1 D = none → ∀ i x H' H'', i < n → LcP H1 D keep f i H' → Y i H' x H'' → g x (wipe σ vs) H'' fun σ2 H2 => wipe σ2 vs = wipe σ vs ∧ tt σ2 H2 fun b H3 => Br b (te σ2 H3 fun y H4 => LcN H1 D keep f i y H4) (LcP H1 D keep f (i + 1) H3)) ∧ NewO (.lst (((List.range n).filter keep).map f)) H1 Q) : mLcP wi g tt te vs σ H Q := by
  unfold mLcP
  exact h
def cTG (g : TG) : TG := fun v σ H Q => ∃ R : L2.St → Hp → Prop, g v σ H R ∧ ∀ σ' H', R σ' H' → Q σ' H'
section
variable {X : Cx} {e tg : Expr} {ifs : List Expr} {g : TG} {tt : TT} {te : TE}
theorem pg_c (h : PG X tg g) : PG X tg (cTG g) := ⟨fun pins s σ H v u Q I r ⟨R, h1, h2⟩ => wpAny_mono (h.run pins s σ H v u R I r h1) (fun _ s1 ⟨σ1, H1, I1, q⟩ => ⟨σ1, H1, I1, h2 _ _ q⟩) fun _ _ z => z⟩
theorem pts_c (h : PTs X ifs tt) : PTs X ifs (cTT tt) := ⟨fun pins s σ H Q I ⟨R, h1, h2⟩ => wpAny_mono (h.run pins s σ H R I h1) (fun _ s1 ⟨H1, I1, q⟩ => ⟨H1, I1, h2 _ _ q⟩) fun _ _ z => z⟩
theorem lcP_of {wi wi' : TI} {vs : List Nat} {σ : L2.St} {H : Hp} {Q : VK} (hw : IMono wi' wi) (q : mLcP wi' g tt te vs σ H Q) : tLc wi (cTG g) (cTT tt) (cTE te) vs σ H Q := by
  unfold mLcP at q
  refine hw _ _ _ _ (fun J H1 r => ?_) q
  obtain ⟨n, G, Y, keep, f, w, hn, hG, ht, hq⟩ := r
  intro D hD
  refine lc_it w (LcP H1 D keep f) ⟨same_upd hD, upd_same⟩ (fun i H' _ p => hG H' p.sm) (fun i x H' H'' hi p y => ?_) fun H' p => hq D H' hD p.sm p.at'
  refine ⟨_, ht D hD i x H' H'' hi p y, fun σ2 H2 r => ⟨r.1, _, r.2, fun b H3 r => ?_⟩⟩
  cases b with
  | true => exact iteT ⟨_, (r.un : if true = true then _ else _), fun y H4 z => z⟩
  | false => exact iteF (r.un : if false = true then _ else _)
theorem pe_lcP {iter elt : Expr} {scope : Scope} {own : List (Str × Nat)} {pos : Pos} {wi wi' : TI} (vs : List Nat) (hw : IMono wi' wi) (hc : X.calm = true) (hN : X.N.Nodup) (hi : PI X tg iter wi) (ok : BlkOk X.N X.env.scope scope own)
    (hg : ∀ (s : Shared) (H : Hp) (C : Addr) (cl : List (Str × Addr)) (fp : List Addr), PG (X.blk s H scope (compEnvC scope cl C X.env) fp) tg g) (ht : ∀ (s : Shared) (H : Hp) (C : Addr) (cl : List (Str × Addr)) (fp : List Addr), PTs (X.blk s H scope (compEnvC scope cl C X.env) fp) ifs tt)
    (he : ∀ (s : Shared) (H : Hp) (C : Addr) (cl : List (Str × Addr)) (fp : List Addr), PE (X.blk s H scope (compEnvC scope cl C X.env) fp) elt te) (hvs : own.map (·.2) = vs := by rfl) (hs : ∀ x, foldedSetIterable iter X.env x = pure x := by intro _; rfl) :
    PE X (.ListComp elt [⟨tg, iter, ifs, 0⟩] scope pos) (mLcP wi' g tt te vs) :=
  pe_weak (pe_lc hc hN hi ok (fun s H C cl fp => pg_c (hg s H C cl fp)) (fun s H C cl fp => pts_c (ht s H C cl fp)) (fun s H C cl fp => pe_c (he s H C cl fp)) hs) fun _ _ _ q => by
    rw [hvs]
    exact lcP_of hw q
theorem ps_setLcP {i : Nat} {y : Str} {py : Pos} {iter elt : Expr} {scope : Scope} {own : List (Str × Nat)} {pos spos : Pos} {wi wi' : TI} (vs : List Nat) (hw : IMono wi' wi) (hc : X.calm = true) (hN : X.N.Nodup) (hy : X.N[i]? = some y) (hyl : X.env.scope.names.lookup y = some .local)
    (hsw : swapsWith (.ListComp elt [⟨tg, iter, ifs, 0⟩] scope pos) (some (.Name y py)) spos.line X.env = pure true) (hi : PI X tg iter wi) (ok : BlkOk X.N X.env.scope scope own)
    (hg : ∀ (s : Shared) (H : Hp) (C : Addr) (cl : List (Str × Addr)) (fp : List Addr), PG (X.blk s H scope (compEnvC scope cl C X.env) fp) tg g) (ht : ∀ (s : Shared) (H : Hp) (C : Addr) (cl : List (Str × Addr)) (fp : List Addr), PTs (X.blk s H scope (compEnvC scope cl C X.env) fp) ifs tt)
    (he : ∀ (s : Shared) (H : Hp) (C : Addr) (cl : List (Str × Addr)) (fp : List Addr), PE (X.blk s H scope (compEnvC scope cl C X.env) fp) elt te) (hvs : own.map (·.2) = vs := by rfl) (hs : ∀ x, foldedSetIterable iter X.env x = pure x := by intro _; rfl) :
    PS X (.Assign [.Name y py] (.ListComp elt [⟨tg, iter, ifs, 0⟩] scope pos) spos) (tAsg (mLcP wi' g tt te vs) (gName i)) :=
  ps_weak (ps_setLc hc hN hy hyl hsw hi ok (fun s H C cl fp => pg_c (hg s H C cl fp)) (fun s H C cl fp => pts_c (ht s H C cl fp)) (fun s H C cl fp => pe_c (he s H C cl fp)) hs) fun _ _ _ q => by
    rw [hvs]
    exact lcP_of hw q
end
theorem wipe2 {σ : L2.St} {i j : Nat} {x y : Option V} (h : i ≠ j) : wipe (((wipe σ [i, j]).set i x).set j y) [i, j] = wipe σ [i, j] := by
  show (((((σ.set j none).set i none).set i x).set j y).set j none).set i none = (σ.set j none).set i none
  have e : ∀ (z : Option V), ((σ.set j none).set i z).set j none = (σ.set j none).set i z := fun z => by rw [List.set_comm _ _ h, List.set_set]
  rw [List.set_set, List.set_set, e, List.set_set]
/-! ### slices; lists of whole numbers compared -/
theorem sIx_nn {n d : Nat} {k : Int} (h : 0 ≤ k) : HT.sIx n d (some k) = min k.toNat n := by
  show (if k < 0 then (k + (n : Int)).toNat else min k.toNat n) = _
  rw [if_neg (by omega)]
theorem sIx_neg {n d : Nat} {k : Int} (h : k < 0) : HT.sIx n d (some k) = (k + (n : Int)).toNat := by
  show (if k < 0 then (k + (n : Int)).toNat else min k.toNat n) = _
  rw [if_pos h]
theorem drop_min {α : Type} (xs : List α) (k : Nat) : xs.drop (min k xs.length) = xs.drop k := by
  by_cases h : k ≤ xs.length
  · rw [Nat.min_eq_left h]
  · rw [Nat.min_eq_right (by omega), List.drop_of_length_le (Nat.le_refl _), List.drop_of_length_le (by omega)]
theorem take_all {α : Type} (xs : List α) {k m : Nat} (h : xs.length ≤ k) (h2 : xs.length ≤ m) : xs.take k = xs.take m := by
  rw [List.take_of_length_le h, List.take_of_length_le h2]
theorem cutX_from {xs : List V} {k : Int} (h : 0 ≤ k) : cutV xs (some k) none = xs.drop k.toNat := by
  unfold cutV
  rw [HT.sIx_none, sIx_nn h, drop_min]
  refine List.take_of_length_le ?_
  rw [List.length_drop]
  omega
theorem cutX_to {xs : List V} {k : Int} (h : 0 ≤ k) : cutV xs none (some k) = xs.take k.toNat := by
  unfold cutV
  rw [HT.sIx_none, sIx_nn h, List.drop_zero, Nat.sub_zero]
  by_cases h2 : k.toNat ≤ xs.length
  · rw [Nat.min_eq_left h2]
  · exact take_all _ (by omega) (by omega)
theorem cutX_nn {xs : List V} {i j : Int} (h : 0 ≤ i) (h' : 0 ≤ j) : cutV xs (some i) (some j) = (xs.drop i.toNat).take (j.toNat - i.toNat) := by
  unfold cutV
  rw [sIx_nn h, sIx_nn h', drop_min]
  by_cases h2 : j.toNat ≤ xs.length
  · by_cases h3 : i.toNat ≤ xs.length
    · rw [Nat.min_eq_left h2, Nat.min_eq_left h3]
    · rw [List.drop_of_length_le (by omega), List.take_nil, List.take_nil]
  · refine take_all _ ?_ ?_ <;> (rw [List.length_drop]; omega)
theorem cutX_butLast {xs : List V} {i : Int} (h : 0 ≤ i) : cutV xs (some i) (some (-1)) = (xs.drop i.toNat).take (xs.length - 1 - i.toNat) := by
  unfold cutV
  rw [sIx_nn h, sIx_neg (by decide), drop_min]
  have e : (-1 + (xs.length : Int)).toNat = xs.length - 1 := by omega
  rw [e]
  by_cases h3 : i.toNat ≤ xs.length
  · rw [Nat.min_eq_left h3]
  · rw [List.drop_of_length_le (by omega), List.take_nil, List.take_nil]
theorem eqvAll_ints : ∀ ns ms : List Int, PyData.eqvAll (ns.map PyData.int) (ms.map PyData.int) = decide (ns = ms)
  | [], [] => rfl
  | [], _ :: _ => by
    rw [decide_eq_false (by intro e; cases e)]
    rfl
  | _ :: _, [] => by
    rw [decide_eq_false (by intro e; cases e)]
    rfl
  | a :: r, b :: s => by
    rw [List.map_cons, List.map_cons, PyData.eqvAll, eqvAll_ints r s, PyData.eqv]
    by_cases h : a = b
    · subst h
      simp
    · simp [h]
section
variable {K : PySem.W.Frag} {H : Hp} {Q : VK} {a b : Addr}
theorem rd_eqI {ns ms : List Int} (h1 : SqL K H a (ns.map V.int)) (h2 : SqL K H b (ms.map V.int)) (h : Q (.bl (decide (ns = ms))) H) : mEqD K (.ref a) (.ref b) H Q :=
  rd_eqA (n := 1) (m := 1) (.list (ns.map PyData.int)) (.list (ms.map PyData.int)) (dp_ints h1) (dp_ints h2) (sh_lst (sh_ints _)) (sh_lst (sh_ints _)) (by rw [PyData.eqv, eqvAll_ints]; exact h)
theorem rd_neI {ns ms : List Int} (h1 : SqL K H a (ns.map V.int)) (h2 : SqL K H b (ms.map V.int)) (h : Q (.bl (!decide (ns = ms))) H) : mNeD K (.ref a) (.ref b) H Q :=
  rd_neA (n := 1) (m := 1) (.list (ns.map PyData.int)) (.list (ms.map PyData.int)) (dp_ints h1) (dp_ints h2) (sh_lst (sh_ints _)) (sh_lst (sh_ints _)) (by rw [PyData.eqv, eqvAll_ints]; exact h)
end
theorem rd_yes {σ : L2.St} {H : Hp} {Q : Bool → Hp → Prop} (h : Q true H) : tYes σ H Q := h
theorem at_last {ns : List Int} (h : 0 < ns.length) : atI (ns.map V.int) (-1) = some (.int (ns.getD (ns.length - 1) 0)) := by
  have hne : ns ≠ [] := fun e => by
    rw [e] at h
    cases h
  obtain ⟨r, x, rfl⟩ : ∃ r x, ns = r ++ [x] := ⟨ns.dropLast, ns.getLast hne, (List.dropLast_concat_getLast hne).symm⟩
  rw [List.map_append]
  have e : (r ++ [x]).getD ((r ++ [x]).length - 1) 0 = x := by
    rw [List.length_append, List.length_singleton, Nat.add_sub_cancel, List.getD_eq_getElem?_getD, List.getElem?_append_right (Nat.le_refl _), Nat.sub_self]
    rfl
  rw [e]
  exact atI_last _ _
/-- the frame in another form -/
theorem frS {F : L2.St → Hp → Prop} {σ σ' : L2.St} {H : Hp} (e : σ' = σ) (h : F σ' H) : F σ H := e ▸ h
theorem br_xnonI {x : Int} {A B : Prop} (h : A) : Br (!decide (V.int x = V.non)) A B := br_nt (fun e => by cases e) h
theorem br_xnonR {x : Addr} {A B : Prop} (h : A) : Br (!decide (V.ref x = V.non)) A B := br_nt (fun e => by cases e) h
theorem br_xnonN {A B : Prop} (h : B) : Br (!decide (V.non = V.non)) A B := br_nf rfl h
theorem rd_listT {K : PySem.W.Frag} {a : Addr} {xs : List V} {H : Hp} {Q : VK} (h1 : SqT K H a xs) (h : NewO (.lst xs) H Q) : mListOf K [.ref a] H Q := by
  unfold mListOf
  exact ⟨a, xs, rfl, .inr h1, h⟩
/-- tuple(xs) of a list -/
@[irreducible] def mTupOf (K : PySem.W.Frag) : List V → Hp → VK → Prop := fun xs H Q => ∃ p ys, xs = [.ref p] ∧ SqL K H p ys ∧ NewO (.tup ys) H Q
theorem rd_tupOf {K : PySem.W.Frag} {a : Addr} {xs : List V} {H : Hp} {Q : VK} (h1 : SqL K H a xs) (h : NewO (.tup xs) H Q) : mTupOf K [.ref a] H Q := by
  unfold mTupOf
  exact ⟨a, xs, rfl, h1, h⟩
theorem call_tupOfM {X : Cx} : CallR X (.type "tuple") (mTupOf X.K) := fun pins s σ H xs us Q I r q => call_tuple_of pins s σ H xs us Q I r (by
  unfold mTupOf at q
  obtain ⟨a, ys, e1, h1, h⟩ := q
  exact ⟨a, ys, e1, .inl ⟨h1, h.go⟩⟩)
/-! ### own cells: objects that change, beside a world that only grows -/
structure Cells (H B : Hp) (l : List (Addr × HO)) : Prop where
  cell : ∀ a o, (a, o) ∈ l → H a = some o
  nd : (l.map Prod.fst).Nodup
  imm : Same B H
  dis : ∀ a o, (a, o) ∈ l → B a = none
structure Own (S B0 : Hp) (as : List Addr) (B : Hp) (l : List (Addr × HO)) (H : Hp) : Prop where
  c : Cells H B l
  kept : ∀ b o, b ∉ as → S b = some o → H b = some o
  own : ∀ a o, (a, o) ∈ l → a ∈ as ∨ S a = none
  grow : Same B0 B
  new : ∀ b, B0 b = none → B b ≠ none → S b = none
  there : ∀ a, a ∈ as → H a ≠ none
theorem mem_fst {l : List (Addr × HO)} {a : Addr} {o : HO} (h : (a, o) ∈ l) : a ∈ l.map Prod.fst := List.mem_map.mpr ⟨(a, o), h, rfl⟩
theorem fst_mem {l : List (Addr × HO)} {a : Addr} (h : a ∈ l.map Prod.fst) : ∃ o, (a, o) ∈ l := by
  obtain ⟨⟨a', o⟩, h2, rfl⟩ := List.mem_map.mp h
  exact ⟨o, h2⟩
theorem Cells.start {H B : Hp} {l : List (Addr × HO)} (c : Cells H B l) : Own H B (l.map Prod.fst) B l H :=
  ⟨c, fun _ _ _ h => h, fun _ _ h => .inl (mem_fst h), Same.refl _, fun _ h k => absurd h k, fun a h => by
    obtain ⟨o, h⟩ := fst_mem h
    rw [c.cell a o h]
    exact fun e => nomatch e⟩
theorem Own.mk0 {H : Hp} : Own H H [] H [] H := ⟨⟨fun _ _ h => (nomatch h), List.nodup_nil, Same.refl _, fun _ _ h => (nomatch h)⟩, fun _ _ _ h => h, fun _ _ h => (nomatch h), Same.refl _, fun _ h k => absurd h k, fun _ h => (nomatch h)⟩
section
variable {S B0 B H H' : Hp} {as : List Addr} {l : List (Addr × HO)} {p : Addr} {o : HO}
theorem Own.mem (w : Own S B0 as B l H) (h : (p, o) ∈ l) : H p = some o := w.c.cell p o h
theorem Own.imm (w : Own S B0 as B l H) : Same B H := w.c.imm
theorem Own.same (w : Own S B0 [] B l H) : Same S H := fun b o h => w.kept b o (fun z => nomatch z) h
theorem Own.frS (w : Own S B0 as B l H) (n : H p = none) : S p = none ∧ p ∉ as := by
  have h2 : p ∉ as := fun h => w.there p h n
  refine ⟨?_, h2⟩
  cases e : S p with
  | none => rfl
  | some u => rw [w.kept p u h2 e] at n; cases n
theorem Own.frB (w : Own S B0 as B l H) (n : H p = none) : B p = none := same_none w.imm n
theorem Own.more (w : Own S B0 as B l H) (s : Same H H') : Own S B0 as B l H' :=
  ⟨⟨fun a u h => s _ _ (w.c.cell a u h), w.c.nd, w.c.imm.trans s, w.c.dis⟩, fun b u hb h => s _ _ (w.kept b u hb h), w.own, w.grow, w.new, fun a h e => w.there a h (same_none s e)⟩
theorem Own.notin (w : Own S B0 as B l H) (n : H p = none) {u : HO} : (p, u) ∉ l := fun h => by
  rw [w.c.cell p u h] at n
  cases n
theorem Own.ro (w : Own S B0 as B l H) (n : H p = none) (s : Same H H') (e : H' p = some o) : ∃ B', Same B B' ∧ B' p = some o ∧ B p = none ∧ Own S B0 as B' l H' := by
  have nb := w.frB n
  refine ⟨upd B p o, same_upd nb, upd_same, nb, ⟨fun a u h => s _ _ (w.c.cell a u h), w.c.nd, fun b u h => ?_, fun a u h => ?_⟩, fun b u hb h => s _ _ (w.kept b u hb h), w.own, w.grow.trans (same_upd nb), fun b h k => ?_, fun a h e => w.there a h (same_none s e)⟩
  · by_cases hb : b = p
    · rw [hb, upd_same] at h
      rw [hb, e, h]
    · rw [upd_ne hb] at h
      exact s _ _ (w.c.imm _ _ h)
  · rw [upd_ne (fun z => w.notin n (z ▸ h))]
    exact w.c.dis a u h
  · by_cases hb : b = p
    · rw [hb]
      exact (w.frS n).1
    · rw [upd_ne hb] at k
      exact w.new b h k
theorem Own.add (w : Own S B0 as B l H) (n : H p = none) (s : Same H H') (e : H' p = some o) : Own S B0 as B ((p, o) :: l) H' :=
  ⟨⟨fun a u h => by
      rcases List.mem_cons.mp h with h | h
      · cases h
        exact e
      · exact s _ _ (w.c.cell a u h), List.nodup_cons.mpr ⟨fun h => by
      obtain ⟨u, h⟩ := fst_mem h
      exact w.notin n h, w.c.nd⟩, w.c.imm.trans s, fun a u h => by
      rcases List.mem_cons.mp h with h | h
      · cases h
        exact w.frB n
      · exact w.c.dis a u h⟩, fun b u hb h => s _ _ (w.kept b u hb h), fun a u h => by
      rcases List.mem_cons.mp h with h | h
      · cases h
        exact .inr (w.frS n).1
      · exact w.own a u h, w.grow, w.new, fun a h e => w.there a h (same_none s e)⟩
theorem Own.sub {l' : List (Addr × HO)} (w : Own S B0 as B l H) (h : ∀ c, c ∈ l' → c ∈ l) (nd : (l'.map Prod.fst).Nodup) : Own S B0 as B l' H :=
  ⟨⟨fun a u k => w.c.cell a u (h _ k), nd, w.c.imm, fun a u k => w.c.dis a u (h _ k)⟩, w.kept, fun a u k => w.own a u (h _ k), w.grow, w.new, w.there⟩
/-- a cell changes: a list of the cells as they stand, one of them another -/
theorem Own.chg {l' : List (Addr × HO)} (w : Own S B0 as B l H) {u : HO} (hm : (p, u) ∈ l) (hf : l'.map Prod.fst = l.map Prod.fst) (hc : ∀ a v, (a, v) ∈ l' → (a = p ∧ v = o) ∨ (a ≠ p ∧ (a, v) ∈ l)) : Own S B0 as B l' (upd H p o) := by
  have old : ∀ {a v}, (a, v) ∈ l' → ∃ v', (a, v') ∈ l := fun {a v} h => by
    have := mem_fst h
    rw [hf] at this
    exact fst_mem this
  refine ⟨⟨fun a v h => ?_, hf ▸ w.c.nd, fun b v h => ?_, fun a v h => ?_⟩, fun b v hb h => ?_, fun a v h => ?_, w.grow, w.new, fun a h => ?_⟩
  · rcases hc a v h with ⟨rfl, rfl⟩ | ⟨hn, h⟩
    · exact upd_same
    · rw [upd_ne hn]
      exact w.c.cell a v h
  · have hb : b ≠ p := fun e => by
      rw [e, w.c.dis p u hm] at h
      cases h
    rw [upd_ne hb]
    exact w.c.imm b v h
  · obtain ⟨v', h'⟩ := old h
    exact w.c.dis a v' h'
  · have hn : b ≠ p := fun e => by
      subst e
      rcases w.own b u hm with z | z
      · exact hb z
      · rw [z] at h
        cases h
    rw [upd_ne hn]
    exact w.kept b v hb h
  · obtain ⟨v', h'⟩ := old h
    exact w.own a v' h'
  · by_cases e : a = p
    · rw [e, upd_same]
      exact fun z => nomatch z
    · rw [upd_ne e]
      exact w.there a h
theorem nd_ne {a b : Addr} {x y : HO} {l : List (Addr × HO)} (nd : (((a, x) :: l).map Prod.fst).Nodup) (h : (b, y) ∈ l) : b ≠ a := fun e => by
  subst e
  exact (List.nodup_cons.mp nd).1 (mem_fst h)
/-- the i-th cell changes -/
theorem Own.set (w : Own S B0 as B l H) (i : Nat) {u : HO} (hi : l[i]? = some (p, u)) (o : HO) : Own S B0 as B (l.set i (p, o)) (upd H p o) := by
  have hm : (p, u) ∈ l := List.mem_of_getElem? hi
  have hil := (List.getElem?_eq_some_iff.mp hi).1
  refine w.chg hm ?_ fun a v h => ?_
  · apply List.ext_getElem?
    intro j
    rw [List.getElem?_map, List.getElem?_map, List.getElem?_set]
    by_cases e : i = j
    · subst e
      rw [if_pos rfl, if_pos hil, hi]
      rfl
    · rw [if_neg e]
  · obtain ⟨j, hj⟩ := List.getElem?_of_mem h
    rw [List.getElem?_set] at hj
    by_cases e : i = j
    · rw [if_pos e, if_pos hil] at hj
      cases hj
      exact .inl ⟨rfl, rfl⟩
    · rw [if_neg e] at hj
      refine .inr ⟨fun z => ?_, List.mem_of_getElem? hj⟩
      subst z
      have h1 : (l.map Prod.fst)[i]? = some a := by rw [List.getElem?_map, hi]; rfl
      have h2 : (l.map Prod.fst)[j]? = some a := by rw [List.getElem?_map, hj]; rfl
      have hil2 : i < (l.map Prod.fst).length := by rw [List.length_map]; exact hil
      exact e ((List.getElem?_inj hil2 w.c.nd).mp (h1.trans h2.symm))
/-- a callee that works on the first cells -/
theorem Own.call {lc lr l' : List (Addr × HO)} {B' : Hp} (w : Own S B0 as B (lc ++ lr) H) (w' : Own H B (lc.map Prod.fst) B' l' H') : Own S B0 as B' (l' ++ lr) H' := by
  have nd := w.c.nd
  rw [List.map_append] at nd
  have ndr := (List.nodup_append.mp nd)
  have hr : ∀ a o, (a, o) ∈ lr → a ∉ lc.map Prod.fst := fun a o h k => ndr.2.2 a k a (mem_fst h) rfl
  have hl : ∀ a o, (a, o) ∈ l' → a ∈ lc.map Prod.fst ∨ H a = none := w'.own
  refine ⟨⟨fun a o h => ?_, ?_, w'.c.imm, fun a o h => ?_⟩, fun b o hb h => ?_, fun a o h => ?_, w.grow.trans w'.grow, fun b h k => ?_, fun a h => ?_⟩
  · rcases List.mem_append.mp h with h | h
    · exact w'.c.cell a o h
    · exact w'.kept a o (hr a o h) (w.c.cell a o (List.mem_append_right _ h))
  · rw [List.map_append]
    refine List.nodup_append.mpr ⟨w'.c.nd, ndr.2.1, fun a h b k e => ?_⟩
    subst e
    obtain ⟨o, h⟩ := fst_mem h
    obtain ⟨o2, k⟩ := fst_mem k
    rcases hl a o h with z | z
    · exact hr a o2 k z
    · rw [w.c.cell a o2 (List.mem_append_right _ k)] at z
      cases z
  · rcases List.mem_append.mp h with h | h
    · exact w'.c.dis a o h
    · have hb := w.c.dis a o (List.mem_append_right _ h)
      cases e : B' a with
      | none => rfl
      | some u =>
        have := w'.new a hb (by rw [e]; exact fun z => nomatch z)
        rw [w.c.cell a o (List.mem_append_right _ h)] at this
        cases this
  · refine w'.kept b o (fun z => ?_) (w.kept b o hb h)
    obtain ⟨u, z⟩ := fst_mem z
    rcases w.own b u (List.mem_append_left _ z) with y | y
    · exact hb y
    · rw [y] at h
      cases h
  · rcases List.mem_append.mp h with h | h
    · rcases hl a o h with z | z
      · obtain ⟨u, z⟩ := fst_mem z
        exact w.own a u (List.mem_append_left _ z)
      · exact .inr (w.frS z).1
    · exact w.own a o (List.mem_append_right _ h)
  · cases e : B b with
    | none => exact (w.frS (w'.new b e k)).1
    | some u => exact w.new b h (by rw [e]; exact fun z => nomatch z)
  · intro e
    have ha := w.there a h
    cases e2 : H a with
    | none => exact ha e2
    | some u =>
      by_cases hc : a ∈ lc.map Prod.fst
      · exact w'.there a hc e
      · rw [w'.kept a u hc e2] at e
        cases e
theorem Own.call0 {lc l' : List (Addr × HO)} {B' : Hp} (w : Own S B0 as B lc H) (w' : Own H B (lc.map Prod.fst) B' l' H') : Own S B0 as B' l' H' := by
  have w2 : Own S B0 as B (lc ++ []) H := by rw [List.append_nil]; exact w
  have w3 := w2.call w'
  rw [List.append_nil] at w3
  exact w3
theorem Own.cellsL {lc lr : List (Addr × HO)} (w : Own S B0 as B (lc ++ lr) H) : Cells H B lc := by
  have nd := w.c.nd
  rw [List.map_append] at nd
  exact ⟨fun a o h => w.c.cell a o (List.mem_append_left _ h), (List.nodup_append.mp nd).1, w.c.imm, fun a o h => w.c.dis a o (List.mem_append_left _ h)⟩
/-- the first cell changes no more -/
theorem Own.ice (w : Own S B0 as B ((p, o) :: l) H) (n : S p = none) : ∃ B', Same B B' ∧ B' p = some o ∧ Own S B0 as B' l H := by
  have nb := w.c.dis p o (List.mem_cons_self ..)
  have nd := List.nodup_cons.mp w.c.nd
  refine ⟨upd B p o, same_upd nb, upd_same, ⟨fun a u h => w.c.cell a u (List.mem_cons_of_mem _ h), nd.2, fun b u h => ?_, fun a u h => ?_⟩, w.kept, fun a u h => w.own a u (List.mem_cons_of_mem _ h), w.grow.trans (same_upd nb), fun b h k => ?_, w.there⟩
  · by_cases hb : b = p
    · rw [hb, upd_same] at h
      rw [hb, w.c.cell p o (List.mem_cons_self ..), h]
    · rw [upd_ne hb] at h
      exact w.c.imm b u h
  · rw [upd_ne (fun z => nd.1 (by rw [← show a = p from z]; exact mem_fst h))]
    exact w.c.dis a u (List.mem_cons_of_mem _ h)
  · by_cases hb : b = p
    · rw [hb]
      exact n
    · rw [upd_ne hb] at k
      exact w.new b h k
end

/-! ### fields, methods, dicts, whiles: readings that stop the walk at what the heap holds -/
@[irreducible] def mGetF (C : Addr) (f : Str) (x : V) (H : Hp) (Q : VK) : Prop := ∃ a dx fs v, x = .ref a ∧ H a = some (.ins C dx fs) ∧ fs.lookup f = some v ∧ Q v H
@[irreducible] def mPutF (C : Addr) (f : Str) (x y : V) (H : Hp) (k : Hp → Prop) : Prop := ∃ a dx fs, x = .ref a ∧ H a = some (.ins C dx fs) ∧ fs.length < 1000 ∧ k (upd H a (.ins C dx (putF f y fs)))
@[irreducible] def mIns (C : Addr) (m : Str) (x : V) (H : Hp) (A : Prop) : Prop := ∃ a dx fs, x = .ref a ∧ H a = some (.ins C dx fs) ∧ fs.lookup m = none ∧ A
@[irreducible] def mDIn (x y : V) (H : Hp) (Q : VK) : Prop := ∃ a kvs k, x = .ref a ∧ y = kV k ∧ H a = some (.dK kvs) ∧ Q (.bl (valV kvs k).isSome) H
@[irreducible] def mDNotIn (x y : V) (H : Hp) (Q : VK) : Prop := ∃ a kvs k, x = .ref a ∧ y = kV k ∧ H a = some (.dK kvs) ∧ Q (.bl (!(valV kvs k).isSome)) H
@[irreducible] def mDGet (x y : V) (H : Hp) (Q : VK) : Prop := ∃ a kvs k v, x = .ref a ∧ y = kV k ∧ H a = some (.dK kvs) ∧ valV kvs k = some v ∧ Q v H
@[irreducible] def mDPut (x y v : V) (H : Hp) (k : Hp → Prop) : Prop := ∃ a kvs key, x = .ref a ∧ y = kV key ∧ H a = some (.dK kvs) ∧ kvs.length < 1000000 ∧ k (upd H a (.dK (putK kvs key v)))
@[irreducible] def mDDel (x y : V) (H : Hp) (k : Hp → Prop) : Prop := ∃ a kvs key, x = .ref a ∧ y = kV key ∧ H a = some (.dK kvs) ∧ (valV kvs key).isSome = true ∧ k (upd H a (.dK (dropK kvs key)))
@[irreducible] def mPopAt (x i : V) (H : Hp) (Q : VK) : Prop := ∃ l xs k y, x = .ref l ∧ i = .int k ∧ H l = some (.lst xs) ∧ 0 ≤ k ∧ k < (xs.length : Int) ∧ k ≤ 1000000 ∧ xs[k.toNat]? = some y ∧ Q y (upd H l (.lst (xs.eraseIdx k.toNat)))
@[irreducible] def mInsert (x i y : V) (H : Hp) (Q : VK) : Prop := ∃ l xs k, x = .ref l ∧ i = .int k ∧ H l = some (.lst xs) ∧ xs.length < 1000000 ∧ 0 ≤ k ∧ k ≤ 1000000 ∧ Q .non (upd H l (.lst (xs.take k.toNat ++ [y] ++ xs.drop k.toNat)))
@[irreducible] def mTru (K : PySem.W.Frag) (x : V) (H : Hp) (Q : Bool → Hp → Prop) : Prop := ∃ k, TruV K x H k ∧ Q k H
def mFld (C : Addr) (ta : TE) (f : Str) : TE := fun σ H Q => ta σ H fun x H1 => mGetF C f x H1 Q
def mSFld (C : Addr) (ta tv : TE) (f : Str) : TS := fun D σ H => tv σ H fun y H1 => ta σ H1 fun x H2 => mPutF C f x y H2 fun H3 => D.nx σ H3
def mSFldAug (C : Addr) (ta tv : TE) (rd : R2) (f : Str) : TS := fun D σ H => ta σ H fun x H1 => mGetF C f x H1 fun v _ => tv σ H1 fun y H2 => rd v y H2 fun z H3 => mPutF C f x z H3 fun H4 => D.nx σ H4
def mMeth (C : Addr) (m : Str) (sp : Sp) (dvs : List V) (E : XK) (ta : TE) (t : TA) : TE := fun σ H Q => ta σ H fun x H1 => mIns C m x H1 (t σ H1 fun vs H2 => sp (x :: (vs ++ dvs)) H2 Q E)
def mDInE (ty td : TE) : TE := fun σ H Q => ty σ H fun y H1 => td σ H1 fun x H2 => mDIn x y H2 Q
def mDNotInE (ty td : TE) : TE := fun σ H Q => ty σ H fun y H1 => td σ H1 fun x H2 => mDNotIn x y H2 Q
def mDGetE (td ty : TE) : TE := fun σ H Q => td σ H fun x H1 => ty σ H1 fun y H2 => mDGet x y H2 Q
def mSDPut (td ty tv : TE) : TS := fun D σ H => tv σ H fun v H1 => td σ H1 fun x H2 => ty σ H2 fun y H3 => mDPut x y v H3 fun H4 => D.nx σ H4
def mSDDel (td ty : TE) : TS := fun D σ H => td σ H fun x H1 => ty σ H1 fun y H2 => mDDel x y H2 fun H3 => D.nx σ H3
def mPopE (to te : TE) : TE := fun σ H Q => to σ H fun x H1 => ∃ l xs, x = .ref l ∧ H1 l = some (.lst xs) ∧ te σ H1 fun y H2 => mPopAt x y H2 Q
def mInsE (to ti te : TE) : TE := fun σ H Q => to σ H fun x H1 => ∃ l xs, x = .ref l ∧ H1 l = some (.lst xs) ∧ ti σ H1 fun i H2 => te σ H2 fun y H3 => mInsert x i y H3 Q
def mTruth (K : PySem.W.Frag) (ta : TE) : TT := fun σ H Q => ta σ H fun x H1 => mTru K x H1 Q
@[irreducible] def mWhile (c : TT) (tb : TS) : TS := fun D σ H => ∃ (Pv : L2.St → Hp → Prop) (μ : L2.St → Hp → Nat), Pv σ H ∧ ∀ σ H, Pv σ H → c σ H fun b H1 => Br b (tb { D with nx := fun σ' H' => Pv σ' H' ∧ μ σ' H' < μ σ H, ct := fun σ' H' => Pv σ' H' ∧ μ σ' H' < μ σ H, bk := D.nx } σ H1) (D.nx σ H1)
theorem rd_while {c : TT} {tb : TS} {D : Ends} {σ : L2.St} {H : Hp} (Pv : L2.St → Hp → Prop) (μ : L2.St → Hp → Nat) (h0 : Pv σ H) (hs : ∀ σ H, Pv σ H → c σ H fun b H1 => Br b (tb { D with nx := fun σ' H' => Pv σ' H' ∧ μ σ' H' < μ σ H, ct := fun σ' H' => Pv σ' H' ∧ μ σ' H' < μ σ H, bk := D.nx } σ H1) (D.nx σ H1)) : mWhile c tb D σ H := by
  unfold mWhile
  exact ⟨Pv, μ, h0, hs⟩
section
variable {C a : Addr} {f m : Str} {H : Hp} {Q : VK} {dx : Addr} {fs : List (Str × V)} {v y : V} {kvs : List (Key × V)} {n : Int} {t : Str} {xs : List V}
theorem rd_getF (h : H a = some (.ins C dx fs)) (hl : fs.lookup f = some v) (q : Q v H) : mGetF C f (.ref a) H Q := by
  unfold mGetF
  exact ⟨a, dx, fs, v, rfl, h, hl, q⟩
theorem rd_putF {k : Hp → Prop} {fs' : List (Str × V)} (h : H a = some (.ins C dx fs)) (hz : fs.length < 1000) (e : putF f y fs = fs') (q : k (upd H a (.ins C dx fs'))) : mPutF C f (.ref a) y H k := by
  unfold mPutF
  exact ⟨a, dx, fs, rfl, h, hz, e ▸ q⟩
theorem rd_ins {A : Prop} (h : H a = some (.ins C dx fs)) (hl : fs.lookup m = none) (q : A) : mIns C m (.ref a) H A := by
  unfold mIns
  exact ⟨a, dx, fs, rfl, h, hl, q⟩
theorem rd_din (h : H a = some (.dK kvs)) (q : Q (.bl (valV kvs (.inl n)).isSome) H) : mDIn (.ref a) (.int n) H Q := by
  unfold mDIn
  exact ⟨a, kvs, .inl n, rfl, rfl, h, q⟩
theorem rd_dnotin (h : H a = some (.dK kvs)) (q : Q (.bl (!(valV kvs (.inl n)).isSome)) H) : mDNotIn (.ref a) (.int n) H Q := by
  unfold mDNotIn
  exact ⟨a, kvs, .inl n, rfl, rfl, h, q⟩
theorem rd_dget (h : H a = some (.dK kvs)) (e : valV kvs (.inl n) = some v) (q : Q v H) : mDGet (.ref a) (.int n) H Q := by
  unfold mDGet
  exact ⟨a, kvs, .inl n, v, rfl, rfl, h, e, q⟩
theorem rd_dgetS (h : H a = some (.dK kvs)) (e : valV kvs (.inr t) = some v) (q : Q v H) : mDGet (.ref a) (.str t) H Q := by
  unfold mDGet
  exact ⟨a, kvs, .inr t, v, rfl, rfl, h, e, q⟩
theorem rd_dput {k : Hp → Prop} (h : H a = some (.dK kvs)) (hz : kvs.length < 1000000) (q : k (upd H a (.dK (putK kvs (.inl n) y)))) : mDPut (.ref a) (.int n) y H k := by
  unfold mDPut
  exact ⟨a, kvs, .inl n, rfl, rfl, h, hz, q⟩
theorem rd_dputS {k : Hp → Prop} (h : H a = some (.dK kvs)) (hz : kvs.length < 1000000) (q : k (upd H a (.dK (putK kvs (.inr t) y)))) : mDPut (.ref a) (.str t) y H k := by
  unfold mDPut
  exact ⟨a, kvs, .inr t, rfl, rfl, h, hz, q⟩
theorem rd_ddel {k : Hp → Prop} (h : H a = some (.dK kvs)) (e : (valV kvs (.inl n)).isSome = true) (q : k (upd H a (.dK (dropK kvs (.inl n))))) : mDDel (.ref a) (.int n) H k := by
  unfold mDDel
  exact ⟨a, kvs, .inl n, rfl, rfl, h, e, q⟩
theorem rd_pop0 {xs : List V} (h : H a = some (.lst (y :: xs))) (q : Q y (upd H a (.lst xs))) : mPopAt (.ref a) (.int 0) H Q := by
  unfold mPopAt
  exact ⟨a, y :: xs, 0, y, rfl, rfl, h, Int.le_refl 0, by rw [List.length_cons]; omega, by decide, rfl, q⟩
theorem rd_popAt (h : H a = some (.lst xs)) (h0 : 0 ≤ n) (h1 : n < (xs.length : Int)) (h2 : n ≤ 1000000) (e : xs[n.toNat]? = some y) (q : Q y (upd H a (.lst (xs.eraseIdx n.toNat)))) : mPopAt (.ref a) (.int n) H Q := by
  unfold mPopAt
  exact ⟨a, xs, n, y, rfl, rfl, h, h0, h1, h2, e, q⟩
theorem rd_insert (h : H a = some (.lst xs)) (hz : xs.length < 1000000) (h0 : 0 ≤ n) (h1 : n ≤ 1000000) (q : Q .non (upd H a (.lst (xs.take n.toNat ++ [y] ++ xs.drop n.toNat)))) : mInsert (.ref a) (.int n) y H Q := by
  unfold mInsert
  exact ⟨a, xs, n, rfl, rfl, h, hz, h0, h1, q⟩
theorem rd_truL {K : PySem.W.Frag} {R : Bool → Hp → Prop} (h : SqL K H a xs) (q : R (!xs.isEmpty) H) : mTru K (.ref a) H R := by
  unfold mTru
  exact ⟨_, .inl ⟨xs, h, rfl⟩, q⟩
theorem rd_truD {K : PySem.W.Frag} {R : Bool → Hp → Prop} (h : H a = some (.dK kvs)) (q : R (!kvs.isEmpty) H) : mTru K (.ref a) H R := by
  unfold mTru
  exact ⟨_, .inr (.inr ⟨kvs, h, rfl⟩), q⟩
theorem rd_truB {K : PySem.W.Frag} {R : Bool → Hp → Prop} {b : Bool} (q : R b H) : mTru K (.bl b) H R := by
  unfold mTru
  exact ⟨b, rfl, q⟩
end
section
variable {X : Cx} {e o value i c : Expr} {f m : Str} {pos pos' tpos apos cpos : Pos} {ta tv td ty te ti to : TE} {C : Addr}
theorem pe_fldM (he : PE X e ta) (c : Cls X.K C) (n : NoAttr X.K C f) (hb : attributeBase e f X.env (eval e X.env) = eval e X.env := by rfl) : PE X (.Attribute e f pos) (mFld C ta f) :=
  pe_weak (pe_fld (pe_c he) hb) fun σ H Q q => ⟨_, q, fun x H1 r => by
    unfold mGetF at r
    obtain ⟨a, dx, fs, v, e1, h, hl, r⟩ := r
    exact ⟨a, C, dx, fs, v, e1, h, c, n, hl, r⟩⟩
theorem ps_fldM (ha : PE X o ta) (hv : PE X value tv) (c : Cls X.K C) (n : NoAttr X.K C f) (hs : swapsWith value (some (.Attribute o f pos')) pos.line X.env = pure false := by rfl) : PS X (.Assign [.Attribute o f pos'] value pos) (mSFld C ta tv f) :=
  ps_weak (ps_fld (pe_c ha) (pe_c hv) hs) fun D σ H q => ⟨_, q, fun y H1 r => ⟨_, r, fun x H2 r => by
    unfold mPutF at r
    obtain ⟨a, dx, fs, e1, h, hz, r⟩ := r
    exact ⟨a, C, dx, fs, e1, h, c, n, hz, r⟩⟩⟩
theorem inop_c {op : Operator} {rd : R2} (h : InOp X op rd) : InOp X op (cR2 rd) := fun pins s σ H x y u v Q I rx ry ⟨R, h1, h2⟩ => thn (h pins s σ H x y u v R I rx ry h1) fun w s1 ⟨z, H1, I1, rz, q⟩ => ⟨z, H1, I1, rz, h2 _ _ q⟩
theorem ps_fldaugM {op : Operator} {rd : R2} (ha : PE X o ta) (hv : PE X value tv) (hop : InOp X op rd) (c : Cls X.K C) (n : NoAttr X.K C f) : PS X (.AugAssign (.Attribute o f tpos) op value pos) (mSFldAug C ta tv rd f) :=
  ps_weak (ps_fldaug (pe_c ha) (pe_c hv) (inop_c hop)) fun D σ H q => ⟨_, q, fun x H1 r => by
    unfold mGetF at r
    obtain ⟨a, dx, fs, v, e1, h, hl, r⟩ := r
    subst e1
    refine ⟨a, C, dx, fs, v, rfl, h, c, n, hl, _, r, fun y H2 r => ⟨_, r, fun z H3 r => ?_⟩⟩
    unfold mPutF at r
    obtain ⟨a', dx', fs', e1, h', hz, r⟩ := r
    cases e1
    exact ⟨dx', fs', h', hz, r⟩⟩
theorem pc_weak {op : CmpOp} {a b : Expr} {t t' : TE} (h : PC X op a b t) (w : ∀ σ H Q, t' σ H Q → t σ H Q) : PC X op a b t' := ⟨fun pins s σ H Q I q => h.run pins s σ H Q I (w σ H Q q)⟩
theorem pc_dinM (hu : X.A.units + 1 < cLine) (hi : PE X i ty) (ho : PE X o td) : PC X .In i o (mDInE ty td) :=
  pc_weak (pc_din hu (pe_c hi) (pe_c ho)) fun σ H Q q => ⟨_, q, fun y H1 r => ⟨_, r, fun x H2 r => by
    unfold mDIn at r
    obtain ⟨a, kvs, k, e1, e2, h, r⟩ := r
    exact ⟨a, _, e1, e2 ▸ DGet.k h, r⟩⟩⟩
theorem pc_dnotinM (hu : X.A.units + 1 < cLine) (hi : PE X i ty) (ho : PE X o td) : PC X .NotIn i o (mDNotInE ty td) :=
  pc_weak (pc_dnotin hu (pe_c hi) (pe_c ho)) fun σ H Q q => ⟨_, q, fun y H1 r => ⟨_, r, fun x H2 r => by
    unfold mDNotIn at r
    obtain ⟨a, kvs, k, e1, e2, h, r⟩ := r
    exact ⟨a, _, e1, e2 ▸ DGet.k h, r⟩⟩⟩
theorem pe_dgetM (hu : X.A.units + 1 < cLine) (ho : PE X o td) (hi : PE X i ty) (hs : NoSl i := by exact fun _ _ => rfl) : PE X (.Subscript o i pos) (mDGetE td ty) :=
  pe_weak (pe_dget hu (pe_c ho) (pe_c hi) hs) fun σ H Q q => ⟨_, q, fun x H1 r => ⟨_, r, fun y H2 r => by
    unfold mDGet at r
    obtain ⟨a, kvs, k, v, e1, e2, h, e, r⟩ := r
    exact ⟨a, v, e1, by rw [e2, ← e]; exact DGet.k h, r⟩⟩⟩
theorem ps_dputM (hu : X.A.units + 1 < cLine) (ho : PE X o td) (hi : PE X i ty) (hv : PE X value tv) (hs : swapsWith value (some (.Subscript o i pos')) pos.line X.env = pure false := by rfl) : PS X (.Assign [.Subscript o i pos'] value pos) (mSDPut td ty tv) :=
  ps_weak (ps_dput hu (pe_c ho) (pe_c hi) (pe_c hv) hs) fun D σ H q => ⟨_, q, fun v H1 r => ⟨_, r, fun x H2 r => ⟨_, r, fun y H3 r => by
    unfold mDPut at r
    obtain ⟨a, kvs, k, e1, e2, h, hz, r⟩ := r
    exact ⟨a, _, e1, e2 ▸ DPut.k h (szl hz), r⟩⟩⟩⟩
theorem ps_ddelM (ho : PE X o td) (hi : PE X i ty) : PS X (.Delete [.Subscript o i tpos] pos) (mSDDel td ty) :=
  ps_weak (ps_ddel (pe_c ho) (pe_c hi)) fun D σ H q => ⟨_, q, fun x H1 r => ⟨_, r, fun y H2 r => by
    unfold mDDel at r
    obtain ⟨a, kvs, k, e1, e2, h, e, r⟩ := r
    exact ⟨a, kvs, k, e1, h, e2, e, r⟩⟩⟩
theorem pt_truthM (ha : PE X e ta) (he : ∀ whole, isTrue e X.env whole = (do let v ← whole; standAt e.pos; holding [v] (truthy v))) : PT X e (mTruth X.K ta) :=
  pt_weak (pt_truth (pe_c ha) he) fun σ H Q q => ⟨_, q, fun x H1 r => by
    unfold mTru at r
    exact r⟩
theorem ps_whileM {body : List Stmt} {tc : TT} {tb : TS} (hp : PassesOwn (model X.prog X.w) X.A X.env X.xe) (hc : PT X c tc) (hb : PSs X body tb) : PS X (.While c body [] pos) (mWhile tc tb) :=
  ps_weak (ps_while hp (pt_c hc) hb) fun D σ H q => by
    unfold mWhile at q
    obtain ⟨Pv, μ, h0, hs⟩ := q
    exact while_by Pv μ h0 (fun σ H p => ⟨_, hs σ H p, fun b H1 r => r.un⟩) fun σ H Q Q' h ⟨R, h1, h2⟩ => ⟨R, h1, fun b H1 r => h _ _ (h2 _ _ r)⟩
theorem pe_pop {o e : Expr} (ho : PE X o to) (he : PE X e te) (hbase : attributeBase o "pop" X.env (eval o X.env) = eval o X.env := by rfl)
    (hfew : ((backTo cpos (starEach [e] X.env)).all (fun x => !x.1) && (backToKw cpos (keywordEach [] X.env)).all (fun x => x.1.isSome)
      && decide ([e].length + ([] : List Keyword).length + (if ([] : List Keyword).isEmpty then 0 else 1) < 30)) = true := by rfl)
    (hline : (apos.endLine == cpos.line) = true := by rfl) (hs : starEach [e] X.env = (false, eval e X.env) :: starEach [] X.env := by rfl) (hplain : (backTo cpos (starEach [] X.env)).any (·.1) = false := by rfl) :
    PE X (.Call (.Attribute o "pop" apos) [e] [] cpos) (mPopE to te) :=
  pe_weak (pe_bm PySem.F.plainAttrs_list PySem.F.slot_list_pop PySem.F.type_list_pop mt_popAt (pe_c ho) (pa_cons (pe_c he) pa_nil hs) hbase hfew hline hs hplain) fun σ H Q q => by
    refine ⟨_, q, fun x H1 r => ?_⟩
    obtain ⟨l, xs, rfl, h, r⟩ := r
    refine ⟨Or.inl ⟨rfl, _, SqL.of h⟩, _, r, fun y H2 r2 => ?_⟩
    unfold mPopAt at r2
    obtain ⟨l2, ys, k, z, e2, e3, h2, h0, h1, hk, hy, q2⟩ := r2
    have big : (2 : Int) ^ 63 = 9223372036854775808 := by decide
    exact ⟨l2, ys, k, k.toNat, z, e2, congrArg (fun u => [u]) e3, h2, by omega, by omega, seqIndex_of h0 h1, hy, q2⟩
end
section
variable {X : Cx} {e o i : Expr} {m : Str} {apos cpos : Pos} {ta te ti to : TE} {C : Addr} {t : TA} {sp : Sp} {dvs : List V} {E : XK}
theorem meth_weak (h : PE X e (tMeth C m sp dvs E (cTE ta) t)) : PE X e (mMeth C m sp dvs E ta t) := pe_weak h fun σ H Q q => ⟨_, q, fun x H1 r => by
  unfold mIns at r
  exact r⟩
theorem pe_insert {o i e : Expr} (ho : PE X o to) (hi : PE X i ti) (he : PE X e te) (hbase : attributeBase o "insert" X.env (eval o X.env) = eval o X.env := by rfl)
    (hfew : ((backTo cpos (starEach [i, e] X.env)).all (fun x => !x.1) && (backToKw cpos (keywordEach [] X.env)).all (fun x => x.1.isSome)
      && decide ([i, e].length + ([] : List Keyword).length + (if ([] : List Keyword).isEmpty then 0 else 1) < 30)) = true := by rfl)
    (hline : (apos.endLine == cpos.line) = true := by rfl) (hs1 : starEach [e] X.env = (false, eval e X.env) :: starEach [] X.env := by rfl) (hs : starEach [i, e] X.env = (false, eval i X.env) :: starEach [e] X.env := by rfl) (hplain : (backTo cpos (starEach [e] X.env)).any (·.1) = false := by rfl) :
    PE X (.Call (.Attribute o "insert" apos) [i, e] [] cpos) (mInsE to ti te) :=
  pe_weak (pe_bm PySem.F.plainAttrs_list PySem.F.slot_list_insert PySem.F.type_list_insert mt_insert (pe_c ho) (pa_cons (pe_c hi) (pa_cons (pe_c he) pa_nil hs1) hs) hbase hfew hline hs hplain) fun σ H Q q => by
    refine ⟨_, q, fun x H1 r => ?_⟩
    obtain ⟨l, xs, rfl, h, r⟩ := r
    refine ⟨Or.inl ⟨rfl, _, SqL.of h⟩, _, r, fun y H2 r => ⟨_, r, fun z H3 r2 => ?_⟩⟩
    unfold mInsert at r2
    obtain ⟨l2, ys, k, e2, e3, h2, hz, h0, h1, q2⟩ := r2
    have big : (2 : Int) ^ 63 = 9223372036854775808 := by decide
    exact ⟨l2, ys, k, z, e2, congrArg (fun u => [u, z]) e3, h2, szl hz, h0, by omega, q2⟩
end
/-! ### an if whose ways meet again: told once by what holds behind it -/
def cTSs (t : TS) : TS := fun D σ H => ∃ P : L2.St → Hp → Prop, t { D with nx := P } σ H ∧ ∀ σ' H', P σ' H' → D.nx σ' H'
theorem pss_c {X : Cx} {sts : List Stmt} {t : TS} (h : PSs X sts t) : PSs X sts (cTSs t) := ⟨fun pins s σ H D I ⟨P, h1, h2⟩ => thn (h.run pins s σ H { D with nx := P } I h1) fun f s' q => by
  cases f with
  | next =>
    obtain ⟨σ', H', I', q⟩ := q
    exact ⟨σ', H', I', h2 _ _ q⟩
  | brk => exact q
  | cont => exact q
  | ret u => exact q⟩
@[irreducible] def IfJ (b : Bool) (t u : TS) (D : Ends) (σ : L2.St) (H : Hp) : Prop := ∃ P : L2.St → Hp → Prop, (b = true → t { D with nx := P } σ H) ∧ (b = false → u { D with nx := P } σ H) ∧ ∀ σ' H', P σ' H' → D.nx σ' H'
def mIfJ (c : TT) (t u : TS) : TS := fun D σ H => c σ H fun b H1 => IfJ b t u D σ H1
theorem rd_ifJ {b : Bool} {t u : TS} {D : Ends} {σ : L2.St} {H : Hp} (P : L2.St → Hp → Prop) (h1 : b = true → t { D with nx := P } σ H) (h2 : b = false → u { D with nx := P } σ H) (k : ∀ σ' H', P σ' H' → D.nx σ' H') : IfJ b t u D σ H := by
  unfold IfJ
  exact ⟨P, h1, h2, k⟩
theorem ps_ifJ {X : Cx} {c : Expr} {bs us : List Stmt} {pos : Pos} {tt : TT} {t u : TS} (hc : PT X c tt) (ha : PSs X bs t) (hb : PSs X us u) : PS X (.If c bs us pos) (mIfJ tt t u) :=
  ps_weak (ps_if (pt_c hc) (pss_c ha) (pss_c hb)) fun D σ H q => ⟨_, q, fun b H1 r => by
    unfold IfJ at r
    obtain ⟨P, h1, h2, k⟩ := r
    cases b with
    | true => exact iteT ⟨P, h1 rfl, k⟩
    | false => exact iteF ⟨P, h2 rfl, k⟩⟩
end My

namespace My
open PySem L2
/-! ### the text by places -/
def topS (i : Nat) : Stmt := PySem.Challenge.pw_bearerwise_k12_whole_no_number_is_read_w.main.body.getD i (.Pass ⟨0, 0, 0, 0⟩)
abbrev S_window_size : Stmt := topS 1
abbrev S_short : Stmt := topS 2
abbrev S_distance : Stmt := topS 3
abbrev S_NumberPlay___init__ : Stmt := inClass (topS 4) 0
abbrev S_NumberPlay_send : Stmt := inClass (topS 4) 1
abbrev S_NumberPlay_come : Stmt := inClass (topS 4) 2
abbrev S_NumberPlay_hear : Stmt := inClass (topS 4) 3
abbrev S_NumberPlay_act : Stmt := inClass (topS 4) 4
abbrev S_play_numbers : Stmt := topS 5
abbrev S_fooling : Stmt := topS 6
abbrev S_u_law_next : Stmt := topS 8
abbrev S_u_law_acts : Stmt := topS 9
abbrev S_u_law_fooled : Stmt := topS 10
abbrev S_law : Stmt := topS 11
theorem sc_window_size : FnScope ["bits"] ["bits"] (defScope S_window_size) := ⟨rfl, rfl, rfl, by decide +kernel, rfl, by decide +kernel, by decide +kernel⟩
theorem sc_short : FnScope ["number", "bits"] ["number", "bits"] (defScope S_short) := ⟨rfl, rfl, rfl, by decide +kernel, rfl, by decide +kernel, by decide +kernel⟩
theorem sc_distance : FnScope ["base", "value", "bits"] ["base", "value", "bits"] (defScope S_distance) := ⟨rfl, rfl, rfl, by decide +kernel, rfl, by decide +kernel, by decide +kernel⟩
theorem sc_NumberPlay___init__ : FnScope ["self", "bits", "window"] ["self", "bits", "window"] (defScope S_NumberPlay___init__) := ⟨rfl, rfl, rfl, by decide +kernel, rfl, by decide +kernel, by decide +kernel⟩
theorem sc_NumberPlay_send : FnScope ["self", "number"] ["self", "number"] (defScope S_NumberPlay_send) := ⟨rfl, rfl, rfl, by decide +kernel, rfl, by decide +kernel, by decide +kernel⟩
theorem sc_NumberPlay_come : FnScope ["self", "number", "far", "read"] ["self"] (defScope S_NumberPlay_come) := ⟨rfl, rfl, rfl, by decide +kernel, rfl, by decide +kernel, by decide +kernel⟩
theorem sc_NumberPlay_hear : FnScope ["self", "low", "read"] ["self"] (defScope S_NumberPlay_hear) := ⟨rfl, rfl, rfl, by decide +kernel, rfl, by decide +kernel, by decide +kernel⟩
theorem sc_NumberPlay_act : FnScope ["self", "act", "word"] ["self", "act"] (defScope S_NumberPlay_act) := ⟨rfl, rfl, rfl, by decide +kernel, rfl, by decide +kernel, by decide +kernel⟩
theorem sc_play_numbers : FnScope ["bits", "window", "acts", "play", "act"] ["bits", "window", "acts"] (defScope S_play_numbers) := ⟨rfl, rfl, rfl, by decide +kernel, rfl, by decide +kernel, by decide +kernel⟩
theorem sc_fooling : FnScope ["bits", "window", "sent", "number"] ["bits"] (defScope S_fooling) := ⟨rfl, rfl, rfl, by decide +kernel, rfl, by decide +kernel, by decide +kernel⟩
theorem sc_u_law_next : FnScope ["tape", "many", "rest", "cell"] ["tape", "many"] (defScope S_u_law_next) := ⟨rfl, rfl, rfl, by decide +kernel, rfl, by decide +kernel, by decide +kernel⟩
theorem sc_u_law_acts : FnScope ["tape", "bits", "window", "acts", "base", "following", "turn", "kind", "number"] ["tape", "bits", "window"] (defScope S_u_law_acts) := ⟨rfl, rfl, rfl, by decide +kernel, rfl, by decide +kernel, by decide +kernel⟩
theorem sc_u_law_fooled : FnScope ["bits", "many", "window", "low", "number", "far"] ["bits"] (defScope S_u_law_fooled) := ⟨rfl, rfl, rfl, by decide +kernel, rfl, by decide +kernel, by decide +kernel⟩
theorem sc_law : FnScope ["script", "tape", "bits", "size", "window", "acts", "kept", "told"] ["script"] (defScope S_law) := ⟨rfl, rfl, rfl, by decide +kernel, rfl, by decide +kernel, by decide +kernel⟩
/-! ### what the top has written -/
structure Tx (P : Program) (w : World) (K : PySem.W.Frag) (mg : Str → Option Value) (base : Heap) where
  n_len : mg "len" = none
  n_range : mg "range" = none
  n_abs : mg "abs" = none
  n_int : mg "int" = none
  n_min : mg "min" = none
  n_isinstance : mg "isinstance" = none
  n_list : mg "list" = none
  n_tuple : mg "tuple" = none
  n_bool : mg "bool" = none
  C_NumberPlay : Addr
  g_NumberPlay : mg "NumberPlay" = some (.ref C_NumberPlay)
  a_window_size : Addr
  d_window_size : FuncData
  p_window_size : DefAt K mg "window_size" "window_size" S_window_size ["bits"] a_window_size d_window_size
  a_short : Addr
  d_short : FuncData
  p_short : DefAt K mg "short" "short" S_short ["number", "bits"] a_short d_short
  a_distance : Addr
  d_distance : FuncData
  p_distance : DefAt K mg "distance" "distance" S_distance ["base", "value", "bits"] a_distance d_distance
  a_NumberPlay___init__ : Addr
  d_NumberPlay___init__ : FuncData
  p_NumberPlay___init__ : MethAt K C_NumberPlay "__init__" "NumberPlay.__init__" S_NumberPlay___init__ ["self", "bits", "window"] a_NumberPlay___init__ d_NumberPlay___init__
  a_NumberPlay_send : Addr
  d_NumberPlay_send : FuncData
  p_NumberPlay_send : MethAt K C_NumberPlay "send" "NumberPlay.send" S_NumberPlay_send ["self", "number"] a_NumberPlay_send d_NumberPlay_send
  a_NumberPlay_come : Addr
  d_NumberPlay_come : FuncData
  p_NumberPlay_come : MethAt K C_NumberPlay "come" "NumberPlay.come" S_NumberPlay_come ["self"] a_NumberPlay_come d_NumberPlay_come
  a_NumberPlay_hear : Addr
  d_NumberPlay_hear : FuncData
  p_NumberPlay_hear : MethAt K C_NumberPlay "hear" "NumberPlay.hear" S_NumberPlay_hear ["self"] a_NumberPlay_hear d_NumberPlay_hear
  a_NumberPlay_act : Addr
  d_NumberPlay_act : FuncData
  p_NumberPlay_act : MethAt K C_NumberPlay "act" "NumberPlay.act" S_NumberPlay_act ["self", "act"] a_NumberPlay_act d_NumberPlay_act
  a_play_numbers : Addr
  d_play_numbers : FuncData
  p_play_numbers : DefAt K mg "play_numbers" "play_numbers" S_play_numbers ["bits", "window", "acts"] a_play_numbers d_play_numbers
  a_fooling : Addr
  d_fooling : FuncData
  p_fooling : DefAt K mg "fooling" "fooling" S_fooling ["bits"] a_fooling d_fooling
  a_u_law_next : Addr
  d_u_law_next : FuncData
  p_u_law_next : DefAt K mg "_law_next" "_law_next" S_u_law_next ["tape", "many"] a_u_law_next d_u_law_next
  a_u_law_acts : Addr
  d_u_law_acts : FuncData
  p_u_law_acts : DefAt K mg "_law_acts" "_law_acts" S_u_law_acts ["tape", "bits", "window"] a_u_law_acts d_u_law_acts
  a_u_law_fooled : Addr
  d_u_law_fooled : FuncData
  p_u_law_fooled : DefAt K mg "_law_fooled" "_law_fooled" S_u_law_fooled ["bits"] a_u_law_fooled d_u_law_fooled
  a_law : Addr
  d_law : FuncData
  p_law : DefAt K mg "law" "law" S_law ["script"] a_law d_law
  k_NumberPlay : ClsAt K C_NumberPlay a_NumberPlay___init__
  f_NumberPlay_bits : NoAttr K C_NumberPlay "bits"
  f_NumberPlay_window : NoAttr K C_NumberPlay "window"
  f_NumberPlay_base : NoAttr K C_NumberPlay "base"
  f_NumberPlay_next : NoAttr K C_NumberPlay "next"
  f_NumberPlay_low : NoAttr K C_NumberPlay "low"
  f_NumberPlay_ahead : NoAttr K C_NumberPlay "ahead"
  f_NumberPlay_air : NoAttr K C_NumberPlay "air"
  f_NumberPlay_back : NoAttr K C_NumberPlay "back"
  f_NumberPlay_wrong_numbers : NoAttr K C_NumberPlay "wrong_numbers"
  f_NumberPlay_wrong_lows : NoAttr K C_NumberPlay "wrong_lows"
/-! ### the walk's own steps -/
local macro_rules | `(tactic| walk_at "side") => `(tactic| first
  | exact rfl
  | assumption
  | omega
  | decide
  | exact Nat.le_of_ble_eq_true rfl
  | exact ⟨by omega, by omega⟩
  | exact ⟨by omega, by omega, by omega⟩
  | exact Or.inl ⟨by omega, by omega⟩
  | exact Or.inr ⟨by omega, by omega⟩)
local macro_rules | `(tactic| walk_at "sm") => `(tactic| first
  | assumption
  | exact Same.refl _
  | (apply Own.imm; assumption)
  | (apply Own.same; assumption)
  | (refine Same.trans ?_ (by assumption); walk_at "sm")
  | (apply Same.trans; rotate_left; (apply Own.imm; assumption); walk_at "sm")
  | (apply Same.trans; rotate_left; (apply Own.same; assumption); walk_at "sm"))
local macro_rules | `(tactic| walk_at "mem") => `(tactic| first
  | exact List.Mem.head _
  | (apply List.Mem.tail; walk_at "mem"))
local macro_rules | `(tactic| walk_at "nn") => `(tactic| first
  | assumption
  | (refine same_none (?_ : Same _ _) (by assumption); walk_at "sm"))
local macro_rules | `(tactic| walk_at "hp") => `(tactic| first
  | assumption
  | (apply Own.mem; assumption; walk_at "mem")
  | (apply hp_step; assumption; walk_at "sm"))
local macro_rules | `(tactic| walk_at "sq") => `(tactic| first
  | assumption
  | (apply sq_of; assumption)
  | (apply st_of; assumption)
  | (apply sq_step; assumption; walk_at "sm")
  | (apply sqt_step; assumption; walk_at "sm")
  | (apply sq_of; walk_at "hp")
  | (apply st_of; walk_at "hp"))
local macro_rules | `(tactic| walk_at "rd") => `(tactic| first
  | refine ⟨_, rfl, ?_⟩
  | refine ⟨_, _, rfl, rfl, ?_⟩
  | refine Or.inl ⟨_, rfl, ?_⟩
  | refine Or.inr ⟨_, rfl, ?_⟩
  | refine ⟨_, _, _, rfl, ?_⟩
  | with_reducible refine br_nonI ?_
  | with_reducible refine br_nonR ?_
  | with_reducible refine br_nonN ?_
  | with_reducible refine br_xnonI ?_
  | with_reducible refine br_xnonR ?_
  | with_reducible refine br_xnonN ?_
  | refine And.intro (by walk_at "side") ?_
  | refine rd_tup ?_
  | refine rd_lst ?_
  | with_reducible refine br_F ?_
  | with_reducible refine br_T ?_
  | with_reducible refine br_nF ?_
  | with_reducible refine br_nT ?_
  | refine ⟨_, rfl, rfl, ?_⟩
  | with_reducible refine rd_yes ?_
  | refine rd_isiIB ?_
  | refine rd_isiII ?_
  | refine rd_getF (by walk_at "hp") rfl ?_
  | refine rd_ins (by walk_at "hp") rfl ?_
  | refine rd_truB ?_
  | refine rd_truL (by walk_at "sq") ?_
  | refine rd_sum (by walk_at "sq") ?_
  | refine rd_lenI (by walk_at "sq") ?_
  | refine rd_len (by walk_at "sq") ?_
  | refine ⟨_, _, rfl, (by walk_at "hp"), ?_⟩)

section
variable {P : Program} {w : World} {K : PySem.W.Frag} {mg : Str → Option Value} {base : Heap}
def sp_window_size (K : PySem.W.Frag) : Sp := fun vs H Q _ => ∃ b : Int, vs = [.int b] ∧ 1 ≤ b ∧ b ≤ 1000 ∧ Q (.int (2 ^ (b - 1).toNat)) H
@[irreducible] def ip_window_size (K : PySem.W.Frag) : Sp := sp_window_size K
theorem op_window_size {K : PySem.W.Frag} {vs : List V} {H : Hp} {Q : VK} {E : XK} (h : sp_window_size K vs H Q E) : ip_window_size K vs H Q E := by
  unfold ip_window_size
  exact h
theorem un_window_size {K : PySem.W.Frag} {vs : List V} {H : Hp} {Q : VK} {E : XK} (h : ip_window_size K vs H Q E) : sp_window_size K vs H Q E := by
  unfold ip_window_size at h
  exact h
theorem ok_window_size (T : Tx P w K mg base) : FnOk P w K mg base CX0 1 T.a_window_size T.d_window_size ["bits"] (ip_window_size K) := by
  refine T.p_window_size.F.ok sc_window_size (fun vs H Q E h => ?_) (fun cdv A outer s H vs Q E hr h => ?_)
  · obtain ⟨b, rfl, h1, h2, q⟩ := un_window_size h
    rfl
  · obtain ⟨b, rfl, h1, h2, q⟩ := un_window_size h
    refine ⟨_, (pss_one (ps_ret (pe_op op_shl1M pe_int (pe_op op_subM (pv 0) pe_int)))), ?_⟩
    (repeat walk_at "rd")
    exact q
def sp_short (K : PySem.W.Frag) : Sp := fun vs H Q _ => ∃ n b : Int, vs = [.int n, .int b] ∧ 0 ≤ b ∧ b ≤ 1000 ∧ Q (.int (n % 2 ^ b.toNat)) H
@[irreducible] def ip_short (K : PySem.W.Frag) : Sp := sp_short K
theorem op_short {K : PySem.W.Frag} {vs : List V} {H : Hp} {Q : VK} {E : XK} (h : sp_short K vs H Q E) : ip_short K vs H Q E := by
  unfold ip_short
  exact h
theorem un_short {K : PySem.W.Frag} {vs : List V} {H : Hp} {Q : VK} {E : XK} (h : ip_short K vs H Q E) : sp_short K vs H Q E := by
  unfold ip_short at h
  exact h
theorem ok_short (T : Tx P w K mg base) : FnOk P w K mg base CX0 1 T.a_short T.d_short ["number", "bits"] (ip_short K) := by
  refine T.p_short.F.ok sc_short (fun vs H Q E h => ?_) (fun cdv A outer s H vs Q E hr h => ?_)
  · obtain ⟨n, b, rfl, h1, h2, q⟩ := un_short h
    rfl
  · obtain ⟨n, b, rfl, h1, h2, q⟩ := un_short h
    refine ⟨_, (pss_one (ps_ret (pe_op op_modM (pv 0) (pe_op op_shl1M pe_int (pv 1))))), ?_⟩
    (repeat walk_at "rd")
    refine ⟨two_pos _, ?_⟩
    exact q
def sp_distance (K : PySem.W.Frag) : Sp := fun vs H Q _ => ∃ n v b : Int, vs = [.int n, .int v, .int b] ∧ 0 ≤ b ∧ b ≤ 1000 ∧ Q (.int ((v - n) % 2 ^ b.toNat)) H
@[irreducible] def ip_distance (K : PySem.W.Frag) : Sp := sp_distance K
theorem op_distance {K : PySem.W.Frag} {vs : List V} {H : Hp} {Q : VK} {E : XK} (h : sp_distance K vs H Q E) : ip_distance K vs H Q E := by
  unfold ip_distance
  exact h
theorem un_distance {K : PySem.W.Frag} {vs : List V} {H : Hp} {Q : VK} {E : XK} (h : ip_distance K vs H Q E) : sp_distance K vs H Q E := by
  unfold ip_distance at h
  exact h
theorem ok_distance (T : Tx P w K mg base) : FnOk P w K mg base CX0 1 T.a_distance T.d_distance ["base", "value", "bits"] (ip_distance K) := by
  refine T.p_distance.F.ok sc_distance (fun vs H Q E h => ?_) (fun cdv A outer s H vs Q E hr h => ?_)
  · obtain ⟨n, v, b, rfl, h1, h2, q⟩ := un_distance h
    rfl
  · obtain ⟨n, v, b, rfl, h1, h2, q⟩ := un_distance h
    refine ⟨_, (pss_one (ps_ret (pe_op op_modM (pe_op op_subM (pv 1) (pv 0)) (pe_op op_shl1M pe_int (pv 2))))), ?_⟩
    (repeat walk_at "rd")
    refine ⟨two_pos _, ?_⟩
    exact q
/-- the law's tape: its cells, the next one, what is left of it, the seed -/
def sp_u_law_next (K : PySem.W.Frag) : Sp := fun vs H Q _ => ∃ (t a : Addr) (ns : List Int) (i r s' many : Int), vs = [.ref t, .int many] ∧ H t = some (.lst [.ref a, .int i, .int r, .int s']) ∧ SqL K H a (ns.map V.int) ∧ (0 ≤ i ∧ i ≤ (ns.length : Int)) ∧ 0 ≤ r ∧ (0 ≤ s' ∧ s' < 2147483647) ∧ (1 ≤ many ∧ many ≤ 1000) ∧
  ∀ (x i' r' z : Int), 0 ≤ x → x < many → (0 ≤ i' ∧ i' ≤ (ns.length : Int)) → 0 ≤ r' → (0 ≤ z ∧ z < 2147483647) → Q (.int x) (upd H t (.lst [.ref a, .int i', .int r', .int z]))
@[irreducible] def ip_u_law_next (K : PySem.W.Frag) : Sp := sp_u_law_next K
theorem op_u_law_next {K : PySem.W.Frag} {vs : List V} {H : Hp} {Q : VK} {E : XK} (h : sp_u_law_next K vs H Q E) : ip_u_law_next K vs H Q E := by
  unfold ip_u_law_next
  exact h
theorem un_u_law_next {K : PySem.W.Frag} {vs : List V} {H : Hp} {Q : VK} {E : XK} (h : ip_u_law_next K vs H Q E) : sp_u_law_next K vs H Q E := by
  unfold ip_u_law_next at h
  exact h
theorem ok_u_law_next (T : Tx P w K mg base) : FnOk P w K mg base CX0 1 T.a_u_law_next T.d_u_law_next ["tape", "many"] (ip_u_law_next K) := by
  refine T.p_u_law_next.F.ok sc_u_law_next (fun vs H Q E h => ?_) (fun cdv A outer s H vs Q E hr h => ?_)
  · obtain ⟨t, a, ns, i, r, s', many, rfl, hT, hS, hi, hr0, hs0, hm, q⟩ := un_u_law_next h
    rfl
  · obtain ⟨t, a, ns, i, r, s', many, rfl, hT, hS, hi, hr0, hs0, hm, q⟩ := un_u_law_next h
    refine ⟨_, (pss_cons (ps_set (i := 2) sc_u_law_next.nd rfl (Or.inl rfl) (pe_ix ix_listM (pv 0) pe_int (fun _ _ => rfl))) (pss_cons (ps_ifM (pt_cmpR op_gtM (pv 2) pe_int (nomark _)) (pss_cons (ps_asg (pe_op op_fdivM (pv 2) (pv 1)) (pg_sub (pv 0) pe_int set_listM)) (pss_one (ps_ret (pe_op op_modM (pe_callTy call_int1 (by rfl) T.n_int (by decide +kernel) (pa_cons (pv 2) pa_nil)) (pv 1))))) pss_nil) (pss_cons (ps_set (i := 3) sc_u_law_next.nd rfl (Or.inl rfl) pe_int) (pss_cons (ps_ifM (pt_cmpR op_ltM (pe_ix ix_listM (pv 0) pe_int (fun _ _ => rfl)) (pe_callB call_lenM (by rfl) T.n_len PySem.boot_len (pa_cons (pe_ix ix_listM (pv 0) pe_int (fun _ _ => rfl)) pa_nil)) (nomark _)) (pss_cons (ps_set (i := 3) sc_u_law_next.nd rfl (Or.inl rfl) (pe_callB call_abs (by rfl) T.n_abs (by decide +kernel) (pa_cons (pe_ix ix_listM (pe_ix ix_listM (pv 0) pe_int (fun _ _ => rfl)) (pe_ix ix_listM (pv 0) pe_int (fun _ _ => rfl)) (fun _ _ => rfl)) pa_nil))) (pss_one (ps_augS (pv 0) pe_int get_listM pe_int ip_add set_listM))) pss_nil) (pss_cons (ps_ifM (pt_cmpR op_geM (pv 3) (pe_op op_powM pe_int pe_int) (nomark _)) (pss_cons (ps_asg (pe_op op_fdivM (pv 3) (pv 1)) (pg_sub (pv 0) pe_int set_listM)) (pss_one (ps_ret (pe_op op_modM (pe_callTy call_int1 (by rfl) T.n_int (by decide +kernel) (pa_cons (pv 3) pa_nil)) (pv 1))))) pss_nil) (pss_cons (ps_asg (pe_op op_modM (pe_callTy call_int1 (by rfl) T.n_int (by decide +kernel) (pa_cons (pe_op op_addM (pe_op op_addM (pe_op op_mulM (pe_ix ix_listM (pv 0) pe_int (fun _ _ => rfl)) pe_int) (pe_op op_mulM (pv 3) pe_int)) pe_int) pa_nil)) pe_int) (pg_sub (pv 0) pe_int set_listM)) (pss_one (ps_ret (pe_op op_modM (pe_callTy call_int1 (by rfl) T.n_int (by decide +kernel) (pa_cons (pe_op op_fdivM (pe_op op_modM (pe_op op_mulM (pe_ix ix_listM (pv 0) pe_int (fun _ _ => rfl)) pe_int) pe_int) pe_int) pa_nil)) (pv 1)))))))))), ?_⟩
    (repeat walk_at "rd")
    refine rd_ixL (sq_of hT) rfl ?_
    (repeat walk_at "rd")
    refine br_by (fun h => ?_) (fun h => ?_)
    · (repeat walk_at "rd")
      refine rd_setL hT (by decide) (by exact Int.lt_of_lt_of_le (by decide : (2 : Int) < 4) (Int.le_refl _)) ?_
      (repeat walk_at "rd")
      exact q (r % many) i (r / many) s' (Int.emod_nonneg _ (by omega)) (Int.emod_lt_of_pos _ (by omega)) hi (Int.ediv_nonneg hr0 (by omega)) hs0
    (repeat walk_at "rd")
    refine rd_ixL (sq_of hT) rfl ?_
    (repeat walk_at "rd")
    refine rd_ixL (sq_of hT) rfl ?_
    (repeat walk_at "rd")
    refine br_by (fun h1 => ?_) (fun h1 => ?_)
    · (repeat walk_at "rd")
      refine rd_ixL (sq_of hT) rfl ?_
      (repeat walk_at "rd")
      refine rd_ixL (sq_of hT) rfl ?_
      (repeat walk_at "rd")
      refine rd_ixI hS hi.1 h1 ?_
      have hc : ∃ c : Int, (if ns.getD i.toNat 0 < 0 then -ns.getD i.toNat 0 else ns.getD i.toNat 0) = c ∧ 0 ≤ c := by
        refine ⟨_, rfl, ?_⟩
        split <;> omega
      obtain ⟨c, ec, hc0⟩ := hc
      (repeat walk_at "rd")
      rw [ec]
      refine rd_ixL (sq_of hT) rfl ?_
      (repeat walk_at "rd")
      refine rd_setL hT (by decide) (by exact Int.lt_of_lt_of_le (by decide : (1 : Int) < 4) (Int.le_refl _)) ?_
      have hT2 : upd H t (.lst [.ref a, .int (i + 1), .int r, .int s']) t = some (.lst [.ref a, .int (i + 1), .int r, .int s']) := upd_same
      (repeat walk_at "rd")
      refine br_by (fun h2 => ?_) (fun h2 => ?_)
      · (repeat walk_at "rd")
        refine rd_setL hT2 (by decide) (by exact Int.lt_of_lt_of_le (by decide : (2 : Int) < 4) (Int.le_refl _)) ?_
        (repeat walk_at "rd")
        rw [upd_upd]
        exact q (c % many) (i + 1) (c / many) s' (Int.emod_nonneg _ (by omega)) (Int.emod_lt_of_pos _ (by omega)) (by omega) (Int.ediv_nonneg hc0 (by omega)) hs0
      (repeat walk_at "rd")
      refine rd_ixL (sq_of hT2) rfl ?_
      (repeat walk_at "rd")
      refine rd_setL hT2 (by decide) (by exact Int.lt_of_lt_of_le (by decide : (3 : Int) < 4) (Int.le_refl _)) ?_
      rw [upd_upd]
      generalize hz : (s' * 48271 + c * 69621 + 11) % 2147483647 = z
      have hz0 : 0 ≤ z ∧ z < 2147483647 := by omega
      have hT3 : upd H t (.lst [.ref a, .int (i + 1), .int r, .int z]) t = some (.lst [.ref a, .int (i + 1), .int r, .int z]) := upd_same
      (repeat walk_at "rd")
      refine rd_ixL (sq_of hT3) rfl ?_
      (repeat walk_at "rd")
      exact q _ (i + 1) r z (Int.emod_nonneg _ (by omega)) (Int.emod_lt_of_pos _ (by omega)) (by omega) hr0 hz0
    (repeat walk_at "rd")
    refine br_f (by decide) ?_
    (repeat walk_at "rd")
    refine rd_ixL (sq_of hT) rfl ?_
    (repeat walk_at "rd")
    refine rd_setL hT (by decide) (by exact Int.lt_of_lt_of_le (by decide : (3 : Int) < 4) (Int.le_refl _)) ?_
    generalize hz : (s' * 48271 + 0 * 69621 + 11) % 2147483647 = z
    have hz0 : 0 ≤ z ∧ z < 2147483647 := by omega
    have hT3 : upd H t (.lst [.ref a, .int i, .int r, .int z]) t = some (.lst [.ref a, .int i, .int r, .int z]) := upd_same
    (repeat walk_at "rd")
    refine rd_ixL (sq_of hT3) rfl ?_
    (repeat walk_at "rd")
    exact q _ i r z (Int.emod_nonneg _ (by omega)) (Int.emod_lt_of_pos _ (by omega)) hi hr0 hz0
def sp_u_law_fooled (K : PySem.W.Frag) : Sp := fun vs H Q _ => ∃ bits : Int, vs = [.int bits] ∧ (3 ≤ bits ∧ bits ≤ 6) ∧ ∀ (p t : Addr) (H' : Hp), H p = none → Same H H' → H' p = some (.lst [.ref t]) → H' t = some (.tup [.int 0, .int (2 ^ bits.toNat)]) → Q (.ref p) H'
@[irreducible] def ip_u_law_fooled (K : PySem.W.Frag) : Sp := sp_u_law_fooled K
theorem op_u_law_fooled {K : PySem.W.Frag} {vs : List V} {H : Hp} {Q : VK} {E : XK} (h : sp_u_law_fooled K vs H Q E) : ip_u_law_fooled K vs H Q E := by
  unfold ip_u_law_fooled
  exact h
theorem un_u_law_fooled {K : PySem.W.Frag} {vs : List V} {H : Hp} {Q : VK} {E : XK} (h : ip_u_law_fooled K vs H Q E) : sp_u_law_fooled K vs H Q E := by
  unfold ip_u_law_fooled at h
  exact h
theorem ok_u_law_fooled (T : Tx P w K mg base) : FnOk P w K mg base CX0 1 T.a_u_law_fooled T.d_u_law_fooled ["bits"] (ip_u_law_fooled K) := by
  refine T.p_u_law_fooled.F.ok sc_u_law_fooled (fun vs H Q E h => ?_) (fun cdv A outer s H vs Q E hr h => ?_)
  · obtain ⟨bits, rfl, hb, q⟩ := un_u_law_fooled h
    rfl
  · obtain ⟨bits, rfl, hb, q⟩ := un_u_law_fooled h
    refine ⟨_, (pss_cons (ps_set (i := 1) sc_u_law_fooled.nd rfl (Or.inl rfl) (pe_ix ix_tupM (pe_tupM (pa_cons pe_int (pa_cons pe_int (pa_cons pe_int (pa_cons pe_int pa_nil))))) (pe_op op_subM (pv 0) pe_int) (fun _ _ => rfl))) (pss_cons (ps_set (i := 2) sc_u_law_fooled.nd rfl (Or.inl rfl) (pe_op op_addM (pe_op op_fdivM (pv 1) pe_int) pe_int)) (pss_cons (ps_set (i := 3) sc_u_law_fooled.nd rfl (Or.inl rfl) pe_int) (pss_cons (ps_forR1 PassesOwn.never rfl rfl T.n_range (pa_cons (pv 2) pa_nil) (pg_name (i := 4) sc_u_law_fooled.nd rfl (Or.inl rfl)) (pss_one (ps_ifM (pt_cmpR op_ltM (pe_op op_modM (pe_op op_subM (pv 4) (pv 3)) (pv 1)) (pv 2) (nomark _)) (pss_one (ps_set (i := 3) sc_u_law_fooled.nd rfl (Or.inl rfl) (pe_op op_addM (pv 3) pe_int))) pss_nil))) (pss_cons (ps_set (i := 5) sc_u_law_fooled.nd rfl (Or.inl rfl) (pe_op op_modM (pe_op op_subM pe_int (pv 3)) (pv 1))) (pss_cons (ps_ifM (pt_cmpR op_ltM (pv 5) (pv 2) (nomark _)) (pss_one (ps_ret (pe_lstM (pa_cons (pe_tupM (pa_cons pe_int (pa_cons (pe_op op_addM (pv 3) (pv 5)) pa_nil))) pa_nil)))) pss_nil) (pss_one (ps_ret (pe_lstM pa_nil))))))))), ?_⟩
    have hm : ∃ m : Int, atI [V.int 8, V.int 16, V.int 32, V.int 64] (bits - 3) = some (.int (2 * m)) ∧ 2 ^ bits.toNat = 2 * m ∧ 4 ≤ m ∧ m ≤ 32 := by
      have h : bits = 3 ∨ bits = 4 ∨ bits = 5 ∨ bits = 6 := by omega
      rcases h with e | e | e | e <;> subst e
      · exact ⟨4, rfl, by decide, by decide, by decide⟩
      · exact ⟨8, rfl, by decide, by decide, by decide⟩
      · exact ⟨16, rfl, by decide, by decide, by decide⟩
      · exact ⟨32, rfl, by decide, by decide, by decide⟩
    obtain ⟨m, hz, h2, hm4, hm32⟩ := hm
    (repeat walk_at "rd")
    intro t2 H2 n2 s2 e2
    (repeat walk_at "rd")
    refine rd_ixT (st_of e2) hz ?_
    (repeat walk_at "rd")
    have hw : 2 * m / 2 + 1 = m + 1 := by omega
    rw [hw]
    refine rd_forR1 ?_
    (repeat walk_at "rd")
    refine ⟨m + 1, fun i σ H' => Stop (H' = H2 ∧ ∃ x y, σ = [some (.int bits), some (.int (2 * m)), some (.int (m + 1)), some (.int i), x, y]), rfl, ⟨by omega, by omega⟩, .a ⟨rfl, _, _, rfl⟩, fun i σ' H' hi p => ?_, fun σ' H' p => ?_⟩
    · obtain ⟨rfl, x, y, rfl⟩ := p.un
      (repeat walk_at "rd")
      have e0 : ((i : Int) - (i : Int)) % (2 * m) = 0 := by
        rw [Int.sub_self, Int.zero_emod]
      refine br_t (by rw [e0]; omega) ?_
      (repeat walk_at "rd")
      exact .a ⟨rfl, _, _, rfl⟩
    · obtain ⟨rfl, x, y, rfl⟩ := p.un
      have ew : (((m + 1).toNat : Nat) : Int) = m + 1 := by omega
      rw [ew]
      have ef : (0 - (m + 1)) % (2 * m) = m - 1 := by
        rw [← Int.add_emod_right, show 0 - (m + 1) + 2 * m = m - 1 by omega]
        exact Int.emod_eq_of_lt (by omega) (by omega)
      (repeat walk_at "rd")
      refine br_t (by rw [ef]; omega) ?_
      (repeat walk_at "rd")
      intro t3 H3 n3 s3 e3
      (repeat walk_at "rd")
      intro p4 H4 n4 s4 e4
      refine q p4 t3 H4 ((s2.trans s3).free n4) ((s2.trans s3).trans s4) e4 ?_
      rw [s4 _ _ e3, ef, h2, show m + 1 + (m - 1) = 2 * m by omega]
/-- the acts of a play, as they stand in a heap -/
inductive ActsL (H : Hp) : List Addr → List (List V) → Prop
  | nil : ActsL H [] []
  | cons {p : Addr} {ps : List Addr} {a : List V} {as : List (List V)} (h : H p = some (.tup a)) (t : ActsL H ps as) : ActsL H (p :: ps) (a :: as)
theorem ActsL.mono {H H' : Hp} {ps : List Addr} {as : List (List V)} (h : ActsL H ps as) (s : Same H H') : ActsL H' ps as := by
  induction h with
  | nil => exact .nil
  | cons h _ ih => exact .cons (s _ _ h) ih
theorem ActsL.app {H : Hp} {ps qs : List Addr} {as bs : List (List V)} (h : ActsL H ps as) (g : ActsL H qs bs) : ActsL H (ps ++ qs) (as ++ bs) := by
  induction h with
  | nil => exact g
  | cons h _ ih => exact .cons h ih
theorem ActsL.rep {H : Hp} {p : Addr} {a : List V} (h : H p = some (.tup a)) : ∀ n : Nat, ActsL H (List.replicate n p) (List.replicate n a)
  | 0 => .nil
  | n + 1 => .cons h (ActsL.rep h n)
theorem ActsL.idx {H : Hp} : ∀ {ps : List Addr} {f : Nat → List V}, (∀ (i : Nat) (p : Addr), ps[i]? = some p → H p = some (.tup (f i))) → ActsL H ps ((List.range ps.length).map f)
  | [], _, _ => .nil
  | p :: ps, f, h => by
    rw [List.length_cons, List.range_succ_eq_map, List.map_cons, List.map_map]
    exact .cons (h 0 p rfl) (ActsL.idx (f := f ∘ Nat.succ) fun i q e => h (i + 1) q e)
theorem ActsL.length {H : Hp} {ps : List Addr} {as : List (List V)} (h : ActsL H ps as) : ps.length = as.length := by
  induction h with
  | nil => rfl
  | cons _ _ ih => rw [List.length_cons, List.length_cons, ih]
def sendA (n : Int) : List V := [.str "send", .int n]
def foolA (w : Int) : List (List V) := (List.range w.toNat).map (fun i => sendA (i : Nat)) ++ List.replicate w.toNat [.str "come"] ++ [sendA 0, [.str "come"]]
def sp_fooling (K : PySem.W.Frag) : Sp := fun vs H Q _ => ∃ bits w : Int, vs = [.int bits] ∧ (3 ≤ bits ∧ bits ≤ 6) ∧ 2 ^ (bits - 1).toNat + 1 = w ∧ (5 ≤ w ∧ w ≤ 33) ∧ ∀ (p : Addr) (H' : Hp) (ps : List Addr), H p = none → Same H H' → H' p = some (.lst (ps.map V.ref)) → ActsL H' ps (foolA w) → Q (.ref p) H'
@[irreducible] def ip_fooling (K : PySem.W.Frag) : Sp := sp_fooling K
theorem op_fooling {K : PySem.W.Frag} {vs : List V} {H : Hp} {Q : VK} {E : XK} (h : sp_fooling K vs H Q E) : ip_fooling K vs H Q E := by
  unfold ip_fooling
  exact h
theorem un_fooling {K : PySem.W.Frag} {vs : List V} {H : Hp} {Q : VK} {E : XK} (h : ip_fooling K vs H Q E) : sp_fooling K vs H Q E := by
  unfold ip_fooling at h
  exact h
theorem ok_fooling (T : Tx P w K mg base) : FnOk P w K mg base CX0 2 T.a_fooling T.d_fooling ["bits"] (ip_fooling K) := by
  have G_window_size := ok_window_size T
  refine T.p_fooling.F.ok sc_fooling (fun vs H Q E h => ?_) (fun cdv A outer s H vs Q E hr h => ?_)
  · obtain ⟨bits, w, rfl, hb, ew, hw, q⟩ := un_fooling h
    rfl
  · obtain ⟨bits, w, rfl, hb, ew, hw, q⟩ := un_fooling h
    refine ⟨_, (pss_cons (ps_set (i := 1) sc_fooling.nd rfl (Or.inl rfl) (pe_op op_addM (pe_call G_window_size (hr.mono (by decide)) rfl T.p_window_size.m T.p_window_size.F.kp T.p_window_size.b .nil pass0 (pa_cons (pv 0) pa_nil)) pe_int)) (pss_cons (ps_setLcTR1 (i := 2) rfl sc_fooling.nd rfl rfl (sw_true rfl rfl rfl (by decide +kernel)) rfl T.n_range (pa_cons (pv 1) pa_nil) (blkOk_by (own := [("number", 3)]) (N := ["bits", "window", "sent", "number"]) (sc := defScope S_fooling) (by decide +kernel)) (fun _ _ _ _ _ => (pg_name (i := 3) sc_fooling.nd rfl (Or.inl rfl))) (fun _ _ _ _ _ => (pe_tupM (pa_cons pe_str (pa_cons (pv 3) pa_nil))))) (pss_one (ps_ret (pe_op op_catM (pe_op op_catM (pv 2) (pe_op op_repM (pe_lstM (pa_cons (pe_tupM (pa_cons pe_str pa_nil)) pa_nil)) (pv 1))) (pe_lstM (pa_cons (pe_tupM (pa_cons pe_str (pa_cons pe_int pa_nil))) (pa_cons (pe_tupM (pa_cons pe_str pa_nil)) pa_nil)))))))), ?_⟩
    (repeat walk_at "rd")
    refine op_window_size ⟨bits, rfl, by omega, by omega, ?_⟩
    (repeat walk_at "rd")
    rw [ew]
    refine rd_lcTR1 ?_
    (repeat walk_at "rd")
    refine ⟨w, fun i => sendA (i : Nat), rfl, ⟨by omega, by omega⟩, fun i hi H' s' => ?_, fun D H1 ps n1 s1 e1 hpl hpt => ?_⟩
    · (repeat walk_at "rd")
      intro t H2 n2 s2 e2
      exact ⟨s2, t, rfl, e2⟩
    have a1 := ActsL.idx hpt
    rw [hpl] at a1
    (repeat walk_at "rd")
    intro t2 H2 n2 s2 e2
    (repeat walk_at "rd")
    intro l3 H3 n3 s3 e3
    (repeat walk_at "rd")
    refine rd_rep (k := w) e3 (by omega) (by omega) (by show 1 * _ ≤ _; omega) fun l4 H4 n4 s4 e4 => ?_
    have er : (List.replicate w.toNat [V.ref t2]).flatten = (List.replicate w.toNat t2).map V.ref := by
      rw [List.map_replicate]
      induction w.toNat with
      | zero => rfl
      | succ n ih => rw [List.replicate_succ, List.flatten_cons, ih, List.replicate_succ]; rfl
    rw [er] at e4
    have s14 : Same H1 H4 := (s2.trans s3).trans s4
    refine rd_cat (s14 _ _ e1) e4 (by rw [List.length_map, List.length_map, List.length_replicate, hpl]; omega) fun l5 H5 n5 s5 e5 => ?_
    rw [← List.map_append] at e5
    have a5 : ActsL H5 (ps ++ List.replicate w.toNat t2) ((List.range w.toNat).map (fun i => sendA (i : Nat)) ++ List.replicate w.toNat [.str "come"]) := (a1.mono (s14.trans s5)).app (ActsL.rep (s5 _ _ (s4 _ _ (s3 _ _ e2))) _)
    (repeat walk_at "rd")
    intro t6 H6 n6 s6 e6
    (repeat walk_at "rd")
    intro t7 H7 n7 s7 e7
    (repeat walk_at "rd")
    intro l8 H8 n8 s8 e8
    refine rd_cat (s8 _ _ (s7 _ _ (s6 _ _ e5))) e8 (by rw [List.length_map, List.length_append, List.length_replicate, hpl]; show _ + 2 ≤ _; omega) fun p H9 n9 s9 e9 => ?_
    have s58 : Same H5 H8 := (s6.trans s7).trans s8
    have s18 : Same H H8 := ((s1.trans s14).trans s5).trans s58
    refine q p H9 ((ps ++ List.replicate w.toNat t2) ++ [t6, t7]) (s18.free n9) (s18.trans s9) ?_ ?_
    · rw [e9, List.map_append (l₂ := [t6, t7])]
      rfl
    · exact (a5.mono (s58.trans s9)).app (.cons (s9 _ _ (s8 _ _ (s7 _ _ e6))) (.cons (s9 _ _ (s8 _ _ e7)) .nil))
end
/-! the play's mirror -/
structure PlS where
  bits : Int
  win : Int
  base : Int
  next : Int
  low : Int
  ahead : List (Key × V)
  air : List Int
  back : List Int
  wn : List (Int × Int)
  wl : List (Int × Int)
inductive Act where
  | send (n : Int)
  | come
  | lose
  | double
  | tell
  | hear
  | miss
def Act.v : Act → List V
  | .send n => [.str "send", .int n]
  | .come => [.str "come"]
  | .lose => [.str "lose"]
  | .double => [.str "double"]
  | .tell => [.str "tell"]
  | .hear => [.str "hear"]
  | .miss => [.str "miss"]
def hasK (k : List (Key × V)) (n : Int) : Bool := (valV k (Sum.inl n)).isSome
def closeF : Nat → List (Key × V) → Int → List (Key × V) × Int
  | 0, k, l => (k, l)
  | n + 1, k, l => if hasK k l = true then closeF n (dropK k (.inl l)) (l + 1) else (k, l)
def distF (bits base v : Int) : Int := (v % 2 ^ bits.toNat - base) % 2 ^ bits.toNat
def PlS.sendS (s : PlS) (n : Int) : PlS := if n < s.base ∨ s.next < n ∨ s.base + s.win ≤ n then s else { s with air := s.air ++ [n], next := if n = s.next then s.next + 1 else s.next }
def PlS.closeS (s : PlS) : PlS := { s with ahead := (closeF s.ahead.length s.ahead s.low).1, low := (closeF s.ahead.length s.ahead s.low).2 }
def PlS.gotS (s : PlS) (n : Int) (r : List Int) : PlS := { s with air := r, wn := if s.low + distF s.bits s.low n = n then s.wn else s.wn ++ [(n, s.low + distF s.bits s.low n)], ahead := putK s.ahead (.inl (s.low + distF s.bits s.low n)) (.bl true) }
def PlS.comeS (s : PlS) : PlS := match s.air with
  | [] => s
  | n :: r => if s.win ≤ distF s.bits s.low n then { s with air := r } else (s.gotS n r).closeS
def PlS.hearS (s : PlS) : PlS := match s.back with
  | [] => s
  | l :: r => if s.next < s.base + distF s.bits s.base l then { s with back := r } else { s with back := r, wl := if s.base + distF s.bits s.base l = l then s.wl else s.wl ++ [(l, s.base + distF s.bits s.base l)], base := s.base + distF s.bits s.base l }
def PlS.step (s : PlS) : Act → PlS
  | .send n => s.sendS n
  | .come => s.comeS
  | .lose => { s with air := s.air.tail }
  | .double => { s with air := match s.air with | [] => [] | x :: r => x :: x :: r }
  | .tell => { s with back := s.back ++ [s.low] }
  | .hear => s.hearS
  | .miss => { s with back := s.back.tail }
structure PlA where
  p : Addr
  dx : Addr
  ahead : Addr
  air : Addr
  back : Addr
  wn : Addr
  wl : Addr
def PlA.as (A : PlA) : List Addr := [A.p, A.ahead, A.air, A.back, A.wn, A.wl]
def PlS.fs (s : PlS) (A : PlA) : List (Str × V) := [("bits", .int s.bits), ("window", .int s.win), ("base", .int s.base), ("next", .int s.next), ("low", .int s.low), ("ahead", .ref A.ahead), ("air", .ref A.air), ("back", .ref A.back), ("wrong_numbers", .ref A.wn), ("wrong_lows", .ref A.wl)]
abbrev PlS.cells (C : Addr) (A : PlA) (s : PlS) (pn pl : List Addr) : List (Addr × HO) := [(A.p, .ins C A.dx (s.fs A)), (A.ahead, .dK s.ahead), (A.air, .lst (s.air.map V.int)), (A.back, .lst (s.back.map V.int)), (A.wn, .lst (pn.map V.ref)), (A.wl, .lst (pl.map V.ref))]
inductive PrsAt (B : Hp) : List Addr → List (Int × Int) → Prop
  | nil : PrsAt B [] []
  | cons {p : Addr} {ps : List Addr} {i j : Int} {r : List (Int × Int)} (h : B p = some (.tup [.int i, .int j])) (t : PrsAt B ps r) : PrsAt B (p :: ps) ((i, j) :: r)
theorem PrsAt.mono {B B' : Hp} {ps : List Addr} {r : List (Int × Int)} (h : PrsAt B ps r) (s : Same B B') : PrsAt B' ps r := by
  induction h with
  | nil => exact .nil
  | cons h _ ih => exact .cons (s _ _ h) ih
theorem PrsAt.snoc {B : Hp} {ps : List Addr} {r : List (Int × Int)} {p : Addr} {i j : Int} (h : PrsAt B ps r) (e : B p = some (.tup [.int i, .int j])) : PrsAt B (ps ++ [p]) (r ++ [(i, j)]) := by
  induction h with
  | nil => exact .cons e .nil
  | cons h _ ih => exact .cons h ih
theorem PrsAt.len {B : Hp} {ps : List Addr} {r : List (Int × Int)} (h : PrsAt B ps r) : ps.length = r.length := by
  induction h with
  | nil => rfl
  | cons _ _ ih => rw [List.length_cons, List.length_cons, ih]
/-- the play stands at A, its parts in B -/
structure PlAt (C : Addr) (A : PlA) (s : PlS) (pn pl : List Addr) (B : Hp) : Prop where
  n : PrsAt B pn s.wn
  l : PrsAt B pl s.wl
structure Small (s : PlS) (m : Nat) : Prop where
  air : s.air.length ≤ m
  back : s.back.length ≤ m
  ahead : s.ahead.length ≤ m
  wn : s.wn.length ≤ m
  wl : s.wl.length ≤ m
  bits : 3 ≤ s.bits ∧ s.bits ≤ 6
def PlDone (C : Addr) (A : PlA) (H B : Hp) (s : PlS) (Q : VK) : Prop := ∀ B' H' pn pl, Own H B A.as B' (s.cells C A pn pl) H' → PrsAt B' pn s.wn → PrsAt B' pl s.wl → Q .non H'
theorem snocI (ns : List Int) (n : Int) : ns.map V.int ++ [V.int n] = (ns ++ [n]).map V.int := by
  rw [List.map_append]
  rfl
theorem snocR (ns : List Addr) (n : Addr) : ns.map V.ref ++ [V.ref n] = (ns ++ [n]).map V.ref := by
  rw [List.map_append]
  rfl
section
variable {P : Program} {w : World} {K : PySem.W.Frag} {mg : Str → Option Value} {base : Heap}
def sp_NumberPlay_send (K : PySem.W.Frag) (C : Addr) : Sp := fun vs H Q _ => ∃ (A : PlA) (s : PlS) (pn pl : List Addr) (B : Hp) (n : Int), vs = [.ref A.p, .int n] ∧ Cells H B (s.cells C A pn pl) ∧ PrsAt B pn s.wn ∧ PrsAt B pl s.wl ∧ Small s 10000 ∧ PlDone C A H B (s.sendS n) Q
@[irreducible] def ip_NumberPlay_send (K : PySem.W.Frag) (C : Addr) : Sp := sp_NumberPlay_send K C
theorem op_NumberPlay_send {K : PySem.W.Frag} {C : Addr} {vs : List V} {H : Hp} {Q : VK} {E : XK} (h : sp_NumberPlay_send K C vs H Q E) : ip_NumberPlay_send K C vs H Q E := by
  unfold ip_NumberPlay_send
  exact h
theorem un_NumberPlay_send {K : PySem.W.Frag} {C : Addr} {vs : List V} {H : Hp} {Q : VK} {E : XK} (h : ip_NumberPlay_send K C vs H Q E) : sp_NumberPlay_send K C vs H Q E := by
  unfold ip_NumberPlay_send at h
  exact h
theorem ok_NumberPlay_send (T : Tx P w K mg base) : FnOk P w K mg base CX0 1 T.a_NumberPlay_send T.d_NumberPlay_send ["self", "number"] (ip_NumberPlay_send K T.C_NumberPlay) := by
  refine T.p_NumberPlay_send.F.ok sc_NumberPlay_send (fun vs H Q E h => ?_) (fun cdv A outer s H vs Q E hr h => ?_)
  · obtain ⟨A, s, pn, pl, B, n, rfl, c, hn, hl, hz, q⟩ := un_NumberPlay_send h
    rfl
  · obtain ⟨A, s, pn, pl, B, n, rfl, c, hn, hl, hz, q⟩ := un_NumberPlay_send h
    refine ⟨_, (pss_cons (ps_ifM (PW.pt (pw_orM (pt_cmpR op_ltM (pv 1) (pe_fldM (pv 0) T.k_NumberPlay.cl T.f_NumberPlay_base) (nomark _)) (pw_orM (pt_cmpR op_gtM (pv 1) (pe_fldM (pv 0) T.k_NumberPlay.cl T.f_NumberPlay_next) (nomark _)) (pw_or1 (pt_cmpR op_geM (pv 1) (pe_op op_addM (pe_fldM (pv 0) T.k_NumberPlay.cl T.f_NumberPlay_base) (pe_fldM (pv 0) T.k_NumberPlay.cl T.f_NumberPlay_window)) (nomark _)))))) (pss_one ps_retN) pss_nil) (pss_cons (ps_expr (pe_app (pe_fldM (pv 0) T.k_NumberPlay.cl T.f_NumberPlay_air) (pv 1))) (pss_one (ps_ifM (pt_cmpR op_eq (pv 1) (pe_fldM (pv 0) T.k_NumberPlay.cl T.f_NumberPlay_next) (nomark _)) (pss_one (ps_fldaugM (pv 0) pe_int in_add T.k_NumberPlay.cl T.f_NumberPlay_next)) pss_nil)))), ?_⟩
    have w : Own H B A.as B (s.cells T.C_NumberPlay A pn pl) H := c.start
    have keep : (n < s.base ∨ s.next < n ∨ s.base + s.win ≤ n) → Q .non H := fun h => by
      have q2 := q
      unfold PlDone PlS.sendS at q2
      rw [if_pos h] at q2
      exact q2 B H pn pl w hn hl
    (repeat walk_at "rd")
    refine br_by (fun h1 => ?_) (fun h1 => ?_)
    · (repeat walk_at "rd")
      exact keep (.inl h1)
    (repeat walk_at "rd")
    refine br_by (fun h2 => ?_) (fun h2 => ?_)
    · (repeat walk_at "rd")
      exact keep (.inr (.inl h2))
    (repeat walk_at "rd")
    refine br_by (fun h3 => ?_) (fun h3 => ?_)
    · (repeat walk_at "rd")
      exact keep (.inr (.inr h3))
    (repeat walk_at "rd")
    refine rd_app (by walk_at "hp") (by rw [List.length_map]; have := hz.air; omega) ?_
    have w2 : Own H B A.as B (({ s with air := s.air ++ [n] } : PlS).cells T.C_NumberPlay A pn pl) (upd H A.air (.lst (s.air.map V.int ++ [.int n]))) := by
      have := w.set 2 rfl (.lst (s.air.map V.int ++ [.int n]))
      rw [snocI] at this ⊢
      exact this
    have q2 := q
    unfold PlDone PlS.sendS at q2
    rw [if_neg (fun h => h.elim h1 fun h => h.elim h2 h3)] at q2
    (repeat walk_at "rd")
    refine br_eby (fun h4 => ?_) (fun h4 => ?_)
    · rw [if_pos h4] at q2
      (repeat walk_at "rd")
      refine rd_putF (by walk_at "hp") (by exact Nat.le_of_ble_eq_true rfl) rfl ?_
      exact q2 B _ pn pl (w2.set 0 rfl _) hn hl
    · rw [if_neg h4] at q2
      (repeat walk_at "rd")
      exact q2 B _ pn pl w2 hn hl
theorem valV_drop (kvs : List (Key × V)) (k j : Key) : valV (dropK kvs k) j = if j = k then none else valV kvs j := by
  induction kvs with
  | nil =>
    show none = _
    split <;> rfl
  | cons x r ih =>
    unfold dropK at ih ⊢
    rw [List.filter_cons]
    by_cases h : x.1 = k
    · rw [if_neg (by simp [h]), ih]
      by_cases hj : j = k
      · rw [if_pos hj, if_pos hj]
      · rw [if_neg hj, if_neg hj, valV_neg (fun z => hj (z.symm.trans h))]
    · rw [if_pos (by simp [h])]
      by_cases hx : x.1 = j
      · rw [valV_pos hx, if_neg (fun z => h (hx.trans z)), valV_pos hx]
      · rw [valV_neg hx, ih, valV_neg hx]
theorem drop_lt {k : List (Key × V)} {l : Int} (h : hasK k l = true) : (dropK k (.inl l)).length < k.length := by
  unfold dropK
  rw [← List.countP_eq_length_filter]
  refine Nat.lt_of_le_of_ne List.countP_le_length fun e => ?_
  have := List.countP_eq_length.mp e
  unfold hasK at h
  rw [← valV_any] at h
  obtain ⟨x, hx, hx2⟩ := List.any_eq_true.mp h
  have h3 := this x hx
  simp at hx2 h3
  exact h3 hx2
theorem closeF_fuel : ∀ (n m : Nat) (k : List (Key × V)) (l : Int), k.length ≤ n → k.length ≤ m → closeF n k l = closeF m k l := by
  intro n
  induction n with
  | zero =>
    intro m k l h1 h2
    have hk : k = [] := List.length_eq_zero_iff.mp (by omega)
    subst hk
    cases m with
    | zero => rfl
    | succ m => rfl
  | succ n ih =>
    intro m k l h1 h2
    cases m with
    | zero =>
      have hk : k = [] := List.length_eq_zero_iff.mp (by omega)
      subst hk
      rfl
    | succ m =>
      show (if hasK k l = true then _ else _) = (if hasK k l = true then _ else _)
      by_cases h : hasK k l = true
      · rw [if_pos h, if_pos h]
        have := drop_lt h
        exact ih m _ _ (by omega) (by omega)
      · rw [if_neg h, if_neg h]
theorem closeF_step {k : List (Key × V)} {l : Int} (h : hasK k l = true) : closeF k.length k l = closeF (dropK k (.inl l)).length (dropK k (.inl l)) (l + 1) := by
  have hd := drop_lt h
  cases hl : k.length with
  | zero => omega
  | succ n =>
    show (if hasK k l = true then _ else _) = _
    rw [if_pos h]
    exact closeF_fuel _ _ _ _ (by omega) (Nat.le_refl _)
theorem closeF_end {k : List (Key × V)} {l : Int} (h : ¬ hasK k l = true) : closeF k.length k l = (k, l) := by
  cases hl : k.length with
  | zero => rfl
  | succ n =>
    show (if hasK k l = true then _ else _) = _
    rw [if_neg h]
theorem closeF_le : ∀ (n : Nat) (k : List (Key × V)) (l : Int), (closeF n k l).1.length ≤ k.length := by
  intro n
  induction n with
  | zero => exact fun k l => Nat.le_refl _
  | succ n ih =>
    intro k l
    show (if hasK k l = true then closeF n (dropK k (.inl l)) (l + 1) else (k, l)).1.length ≤ _
    by_cases h : hasK k l = true
    · rw [if_pos h]
      have := drop_lt h
      have := ih (dropK k (.inl l)) (l + 1)
      omega
    · rw [if_neg h]
      exact Nat.le_refl _
def dlen (o : Option HO) : Nat := match o with
  | some (.dK k) => k.length
  | _ => 0
def sp_NumberPlay_come (K : PySem.W.Frag) (C : Addr) : Sp := fun vs H Q _ => ∃ (A : PlA) (s : PlS) (pn pl : List Addr) (B : Hp), vs = [.ref A.p] ∧ Cells H B (s.cells C A pn pl) ∧ PrsAt B pn s.wn ∧ PrsAt B pl s.wl ∧ Small s 10000 ∧ s.air ≠ [] ∧ PlDone C A H B s.comeS Q
@[irreducible] def ip_NumberPlay_come (K : PySem.W.Frag) (C : Addr) : Sp := sp_NumberPlay_come K C
theorem op_NumberPlay_come {K : PySem.W.Frag} {C : Addr} {vs : List V} {H : Hp} {Q : VK} {E : XK} (h : sp_NumberPlay_come K C vs H Q E) : ip_NumberPlay_come K C vs H Q E := by
  unfold ip_NumberPlay_come
  exact h
theorem un_NumberPlay_come {K : PySem.W.Frag} {C : Addr} {vs : List V} {H : Hp} {Q : VK} {E : XK} (h : ip_NumberPlay_come K C vs H Q E) : sp_NumberPlay_come K C vs H Q E := by
  unfold ip_NumberPlay_come at h
  exact h
theorem ok_NumberPlay_come (T : Tx P w K mg base) : FnOk P w K mg base CX0 2 T.a_NumberPlay_come T.d_NumberPlay_come ["self"] (ip_NumberPlay_come K T.C_NumberPlay) := by
  have G_distance := ok_distance T
  have G_short := ok_short T
  refine T.p_NumberPlay_come.F.ok sc_NumberPlay_come (fun vs H Q E h => ?_) (fun cdv A outer s H vs Q E hr h => ?_)
  · obtain ⟨A, s, pn, pl, B, rfl, c, hn, hl, hz, hne, q⟩ := un_NumberPlay_come h
    rfl
  · obtain ⟨A, s, pn, pl, B, rfl, c, hn, hl, hz, hne, q⟩ := un_NumberPlay_come h
    refine ⟨_, (pss_cons (ps_set (i := 1) sc_NumberPlay_come.nd rfl (Or.inl rfl) (pe_pop (pe_fldM (pv 0) T.k_NumberPlay.cl T.f_NumberPlay_air) pe_int)) (pss_cons (ps_set (i := 2) sc_NumberPlay_come.nd rfl (Or.inl rfl) (pe_call G_distance (hr.mono (by decide)) rfl T.p_distance.m T.p_distance.F.kp T.p_distance.b .nil pass0 (pa_cons (pe_fldM (pv 0) T.k_NumberPlay.cl T.f_NumberPlay_low) (pa_cons (pe_call G_short (hr.mono (by decide)) rfl T.p_short.m T.p_short.F.kp T.p_short.b .nil pass0 (pa_cons (pv 1) (pa_cons (pe_fldM (pv 0) T.k_NumberPlay.cl T.f_NumberPlay_bits) pa_nil))) (pa_cons (pe_fldM (pv 0) T.k_NumberPlay.cl T.f_NumberPlay_bits) pa_nil))))) (pss_cons (ps_ifM (pt_cmpR op_geM (pv 2) (pe_fldM (pv 0) T.k_NumberPlay.cl T.f_NumberPlay_window) (nomark _)) (pss_one ps_retN) pss_nil) (pss_cons (ps_set (i := 3) sc_NumberPlay_come.nd rfl (Or.inl rfl) (pe_op op_addM (pe_fldM (pv 0) T.k_NumberPlay.cl T.f_NumberPlay_low) (pv 2))) (pss_cons (ps_ifJ (pt_cmpR op_ne (pv 3) (pv 1) (nomark _)) (pss_one (ps_expr (pe_app (pe_fldM (pv 0) T.k_NumberPlay.cl T.f_NumberPlay_wrong_numbers) (pe_tupM (pa_cons (pv 1) (pa_cons (pv 3) pa_nil)))))) pss_nil) (pss_cons (ps_dputM (hu_of hr) (pe_fldM (pv 0) T.k_NumberPlay.cl T.f_NumberPlay_ahead) (pv 3) pe_bl) (pss_one (ps_whileM PassesOwn.never (pt_cmp (pc_dinM (hu_of hr) (pe_fldM (pv 0) T.k_NumberPlay.cl T.f_NumberPlay_low) (pe_fldM (pv 0) T.k_NumberPlay.cl T.f_NumberPlay_ahead))) (pss_cons (ps_ddelM (pe_fldM (pv 0) T.k_NumberPlay.cl T.f_NumberPlay_ahead) (pe_fldM (pv 0) T.k_NumberPlay.cl T.f_NumberPlay_low)) (pss_one (ps_fldaugM (pv 0) pe_int in_add T.k_NumberPlay.cl T.f_NumberPlay_low))))))))))), ?_⟩
    obtain ⟨bits, win, base, next, low, ahead, air, back, wn, wl⟩ := s
    cases air with
    | nil => exact absurd rfl hne
    | cons n r =>
    have hbits := hz.bits
    have hza := hz.ahead
    have hzn := hz.wn
    dsimp only at hbits hza hzn
    have w : Own H B A.as B ((⟨bits, win, base, next, low, ahead, n :: r, back, wn, wl⟩ : PlS).cells T.C_NumberPlay A pn pl) H := c.start
    (repeat walk_at "rd")
    refine rd_pop0 (y := .int n) (xs := r.map V.int) (by walk_at "hp") ?_
    have w2 : Own H B A.as B ((⟨bits, win, base, next, low, ahead, r, back, wn, wl⟩ : PlS).cells T.C_NumberPlay A pn pl) (upd H A.air (.lst (r.map V.int))) := w.set 2 rfl _
    (repeat walk_at "rd")
    refine op_short ⟨_, _, rfl, by dsimp only; omega, by dsimp only; omega, ?_⟩
    (repeat walk_at "rd")
    refine op_distance ⟨_, _, _, rfl, by dsimp only; omega, by dsimp only; omega, ?_⟩
    (repeat walk_at "rd")
    have q2 := q
    unfold PlDone PlS.comeS at q2
    dsimp only at q2
    show Br (decide (win ≤ distF bits low n)) _ _
    refine br_by (fun h => ?_) (fun h => ?_)
    · (repeat walk_at "rd")
      rw [if_pos h] at q2
      exact q2 B _ pn pl w2 hn hl
    rw [if_neg h] at q2
    (repeat walk_at "rd")
    refine rd_ifJ (fun σ' H' => Stop (∃ (B2 : Hp) (pn2 : List Addr) (wn2 : List (Int × Int)), Own H B A.as B2 ((⟨bits, win, base, next, low, ahead, r, back, wn2, wl⟩ : PlS).cells T.C_NumberPlay A pn2 pl) H' ∧ PrsAt B2 pn2 wn2 ∧ PrsAt B2 pl wl ∧
      wn2 = (if low + distF bits low n = n then wn else wn ++ [(n, low + distF bits low n)]) ∧ σ' = [some (.ref A.p), some (.int n), some (.int (distF bits low n)), some (.int (low + distF bits low n))])) (fun hb => ?_) (fun hb => ?_) (fun σ' H' p => ?_)
    · have hw : low + distF bits low n ≠ n := fun e => by
        have : (!decide (V.int (low + distF bits low n) = V.int n)) = true := hb
        rw [e] at this
        simp at this
      (repeat walk_at "rd")
      intro t H1 n1 s1 e1
      obtain ⟨B1, sB, hB, _, w3⟩ := w2.ro n1 s1 e1
      refine rd_app (by walk_at "hp") (by rw [List.length_map]; have hnl : pn.length = wn.length := hn.len; omega) ?_
      have w4 := w3.set 4 rfl (.lst (pn.map V.ref ++ [.ref t]))
      refine .a ⟨B1, pn ++ [t], wn ++ [(n, low + distF bits low n)], ?_, (hn.mono sB).snoc hB, hl.mono sB, (if_neg hw).symm, rfl⟩
      rw [snocR] at w4 ⊢
      exact w4
    · have hw : low + distF bits low n = n := by
        have : (!decide (V.int (low + distF bits low n) = V.int n)) = false := hb
        simp at this
        exact this
      (repeat walk_at "rd")
      exact .a ⟨B, pn, wn, w2, hn, hl, (if_pos hw).symm, rfl⟩
    obtain ⟨B2, pn2, wn2, w5, hn2, hl2, e2, rfl⟩ := p.un
    (repeat walk_at "rd")
    generalize hK : putK ahead (.inl (low + distF bits low n)) (.bl true) = k0
    refine rd_dput (by walk_at "hp") (by dsimp only; omega) ?_
    have w6 : Own H B A.as B2 ((⟨bits, win, base, next, low, k0, r, back, wn2, wl⟩ : PlS).cells T.C_NumberPlay A pn2 pl) (upd H' A.ahead (.dK (putK ahead (.inl (low + distF bits low n)) (.bl true)))) := by
      rw [← hK]
      exact w5.set 1 rfl _
    refine rd_while (fun σ H' => Stop (∃ (k : List (Key × V)) (l : Int), Own H B A.as B2 ((⟨bits, win, base, next, l, k, r, back, wn2, wl⟩ : PlS).cells T.C_NumberPlay A pn2 pl) H' ∧ closeF k.length k l = closeF k0.length k0 low ∧ σ = [some (.ref A.p), some (.int n), some (.int (distF bits low n)), some (.int (low + distF bits low n))])) (fun _ H' => dlen (H' A.ahead)) (.a ⟨k0, low, w6, rfl, rfl⟩) fun σ3 H3 p3 => ?_
    obtain ⟨k, l, w7, e7, rfl⟩ := p3.un
    (repeat walk_at "rd")
    refine rd_din (by walk_at "hp") ?_
    (repeat walk_at "rd")
    refine br_b (fun hk => ?_) (fun hk => ?_)
    · (repeat walk_at "rd")
      refine rd_ddel (by walk_at "hp") hk ?_
      have w8 : Own H B A.as B2 ((⟨bits, win, base, next, l, dropK k (.inl l), r, back, wn2, wl⟩ : PlS).cells T.C_NumberPlay A pn2 pl) (upd H3 A.ahead (.dK (dropK k (.inl l)))) := w7.set 1 rfl _
      (repeat walk_at "rd")
      refine rd_putF (by walk_at "hp") (by exact Nat.le_of_ble_eq_true rfl) rfl ?_
      have w9 : Own H B A.as B2 ((⟨bits, win, base, next, l + 1, dropK k (.inl l), r, back, wn2, wl⟩ : PlS).cells T.C_NumberPlay A pn2 pl) _ := w8.set 0 rfl _
      refine ⟨.a ⟨_, _, w9, (closeF_step hk).symm.trans e7, rfl⟩, ?_⟩
      have d1 := w9.mem (p := A.ahead) (.tail _ (.head _))
      have d2 := w7.mem (p := A.ahead) (.tail _ (.head _))
      dsimp only at d1 d2
      show dlen _ < dlen _
      rw [d2]
      refine Nat.lt_of_le_of_lt (Nat.le_of_eq (congrArg dlen d1)) ?_
      exact drop_lt hk
    · have hk2 : ¬ hasK k l = true := fun z => by
        unfold hasK at z
        rw [hk] at z
        cases z
      rw [closeF_end hk2] at e7
      have e4 : ((⟨bits, win, base, next, low, ahead, n :: r, back, wn, wl⟩ : PlS).gotS n r).closeS = ⟨bits, win, base, next, l, k, r, back, wn2, wl⟩ := by
        unfold PlS.gotS PlS.closeS
        dsimp only
        rw [hK, ← e7, ← e2]
      rw [e4] at q2
      exact q2 B2 H3 pn2 pl w7 hn2 hl2
def sp_NumberPlay_hear (K : PySem.W.Frag) (C : Addr) : Sp := fun vs H Q _ => ∃ (A : PlA) (s : PlS) (pn pl : List Addr) (B : Hp), vs = [.ref A.p] ∧ Cells H B (s.cells C A pn pl) ∧ PrsAt B pn s.wn ∧ PrsAt B pl s.wl ∧ Small s 10000 ∧ s.back ≠ [] ∧ PlDone C A H B s.hearS Q
@[irreducible] def ip_NumberPlay_hear (K : PySem.W.Frag) (C : Addr) : Sp := sp_NumberPlay_hear K C
theorem op_NumberPlay_hear {K : PySem.W.Frag} {C : Addr} {vs : List V} {H : Hp} {Q : VK} {E : XK} (h : sp_NumberPlay_hear K C vs H Q E) : ip_NumberPlay_hear K C vs H Q E := by
  unfold ip_NumberPlay_hear
  exact h
theorem un_NumberPlay_hear {K : PySem.W.Frag} {C : Addr} {vs : List V} {H : Hp} {Q : VK} {E : XK} (h : ip_NumberPlay_hear K C vs H Q E) : sp_NumberPlay_hear K C vs H Q E := by
  unfold ip_NumberPlay_hear at h
  exact h
theorem ok_NumberPlay_hear (T : Tx P w K mg base) : FnOk P w K mg base CX0 2 T.a_NumberPlay_hear T.d_NumberPlay_hear ["self"] (ip_NumberPlay_hear K T.C_NumberPlay) := by
  have G_distance := ok_distance T
  have G_short := ok_short T
  refine T.p_NumberPlay_hear.F.ok sc_NumberPlay_hear (fun vs H Q E h => ?_) (fun cdv A outer s H vs Q E hr h => ?_)
  · obtain ⟨A, s, pn, pl, B, rfl, c, hn, hl, hz, hne, q⟩ := un_NumberPlay_hear h
    rfl
  · obtain ⟨A, s, pn, pl, B, rfl, c, hn, hl, hz, hne, q⟩ := un_NumberPlay_hear h
    refine ⟨_, (pss_cons (ps_set (i := 1) sc_NumberPlay_hear.nd rfl (Or.inl rfl) (pe_pop (pe_fldM (pv 0) T.k_NumberPlay.cl T.f_NumberPlay_back) pe_int)) (pss_cons (ps_set (i := 2) sc_NumberPlay_hear.nd rfl (Or.inl rfl) (pe_op op_addM (pe_fldM (pv 0) T.k_NumberPlay.cl T.f_NumberPlay_base) (pe_call G_distance (hr.mono (by decide)) rfl T.p_distance.m T.p_distance.F.kp T.p_distance.b .nil pass0 (pa_cons (pe_fldM (pv 0) T.k_NumberPlay.cl T.f_NumberPlay_base) (pa_cons (pe_call G_short (hr.mono (by decide)) rfl T.p_short.m T.p_short.F.kp T.p_short.b .nil pass0 (pa_cons (pv 1) (pa_cons (pe_fldM (pv 0) T.k_NumberPlay.cl T.f_NumberPlay_bits) pa_nil))) (pa_cons (pe_fldM (pv 0) T.k_NumberPlay.cl T.f_NumberPlay_bits) pa_nil)))))) (pss_cons (ps_ifM (pt_cmpR op_gtM (pv 2) (pe_fldM (pv 0) T.k_NumberPlay.cl T.f_NumberPlay_next) (nomark _)) (pss_one ps_retN) pss_nil) (pss_cons (ps_ifJ (pt_cmpR op_ne (pv 2) (pv 1) (nomark _)) (pss_one (ps_expr (pe_app (pe_fldM (pv 0) T.k_NumberPlay.cl T.f_NumberPlay_wrong_lows) (pe_tupM (pa_cons (pv 1) (pa_cons (pv 2) pa_nil)))))) pss_nil) (pss_one (ps_fldM (pv 0) (pv 2) T.k_NumberPlay.cl T.f_NumberPlay_base)))))), ?_⟩
    obtain ⟨bits, win, base, next, low, ahead, air, back, wn, wl⟩ := s
    cases back with
    | nil => exact absurd rfl hne
    | cons n r =>
    have hbits := hz.bits
    have hzl := hz.wl
    have hll : pl.length = wl.length := hl.len
    dsimp only at hbits hzl
    have w : Own H B A.as B ((⟨bits, win, base, next, low, ahead, air, n :: r, wn, wl⟩ : PlS).cells T.C_NumberPlay A pn pl) H := c.start
    (repeat walk_at "rd")
    refine rd_pop0 (y := .int n) (xs := r.map V.int) (by walk_at "hp") ?_
    have w2 : Own H B A.as B ((⟨bits, win, base, next, low, ahead, air, r, wn, wl⟩ : PlS).cells T.C_NumberPlay A pn pl) (upd H A.back (.lst (r.map V.int))) := w.set 3 rfl _
    (repeat walk_at "rd")
    refine op_short ⟨_, _, rfl, by dsimp only; omega, by dsimp only; omega, ?_⟩
    (repeat walk_at "rd")
    refine op_distance ⟨_, _, _, rfl, by dsimp only; omega, by dsimp only; omega, ?_⟩
    (repeat walk_at "rd")
    have q2 := q
    unfold PlDone PlS.hearS at q2
    dsimp only at q2
    show Br (decide (next < base + distF bits base n)) _ _
    refine br_by (fun h => ?_) (fun h => ?_)
    · (repeat walk_at "rd")
      rw [if_pos h] at q2
      exact q2 B _ pn pl w2 hn hl
    rw [if_neg h] at q2
    (repeat walk_at "rd")
    refine rd_ifJ (fun σ' H' => Stop (∃ (B2 : Hp) (pl2 : List Addr) (wl2 : List (Int × Int)), Own H B A.as B2 ((⟨bits, win, base, next, low, ahead, air, r, wn, wl2⟩ : PlS).cells T.C_NumberPlay A pn pl2) H' ∧ PrsAt B2 pn wn ∧ PrsAt B2 pl2 wl2 ∧
      wl2 = (if base + distF bits base n = n then wl else wl ++ [(n, base + distF bits base n)]) ∧ σ' = [some (.ref A.p), some (.int n), some (.int (base + distF bits base n))])) (fun hb => ?_) (fun hb => ?_) (fun σ' H' p => ?_)
    · have hw : base + distF bits base n ≠ n := fun e => by
        have : (!decide (V.int (base + distF bits base n) = V.int n)) = true := hb
        rw [e] at this
        simp at this
      (repeat walk_at "rd")
      intro t H1 n1 s1 e1
      obtain ⟨B1, sB, hB, _, w3⟩ := w2.ro n1 s1 e1
      refine rd_app (by walk_at "hp") (by rw [List.length_map]; omega) ?_
      have w4 := w3.set 5 rfl (.lst (pl.map V.ref ++ [.ref t]))
      refine .a ⟨B1, pl ++ [t], wl ++ [(n, base + distF bits base n)], ?_, hn.mono sB, (hl.mono sB).snoc hB, (if_neg hw).symm, rfl⟩
      rw [snocR] at w4 ⊢
      exact w4
    · have hw : base + distF bits base n = n := by
        have : (!decide (V.int (base + distF bits base n) = V.int n)) = false := hb
        simp at this
        exact this
      (repeat walk_at "rd")
      exact .a ⟨B, pl, wl, w2, hn, hl, (if_pos hw).symm, rfl⟩
    obtain ⟨B2, pl2, wl2, w5, hn2, hl2, e2, rfl⟩ := p.un
    (repeat walk_at "rd")
    refine rd_putF (by walk_at "hp") (by exact Nat.le_of_ble_eq_true rfl) rfl ?_
    rw [← e2] at q2
    exact q2 B2 _ pn pl2 (w5.set 0 rfl _) hn2 hl2
def sp_NumberPlay_act (K : PySem.W.Frag) (C : Addr) : Sp := fun vs H Q _ => ∃ (A : PlA) (s : PlS) (pn pl : List Addr) (B : Hp) (t : Addr) (a : Act), vs = [.ref A.p, .ref t] ∧ B t = some (.tup a.v) ∧ Cells H B (s.cells C A pn pl) ∧ PrsAt B pn s.wn ∧ PrsAt B pl s.wl ∧ Small s 10000 ∧ PlDone C A H B (s.step a) Q
theorem isE_map {ns : List Int} : (ns.map V.int).isEmpty = ns.isEmpty := by cases ns <;> rfl
@[irreducible] def ip_NumberPlay_act (K : PySem.W.Frag) (C : Addr) : Sp := sp_NumberPlay_act K C
theorem op_NumberPlay_act {K : PySem.W.Frag} {C : Addr} {vs : List V} {H : Hp} {Q : VK} {E : XK} (h : sp_NumberPlay_act K C vs H Q E) : ip_NumberPlay_act K C vs H Q E := by
  unfold ip_NumberPlay_act
  exact h
theorem un_NumberPlay_act {K : PySem.W.Frag} {C : Addr} {vs : List V} {H : Hp} {Q : VK} {E : XK} (h : ip_NumberPlay_act K C vs H Q E) : sp_NumberPlay_act K C vs H Q E := by
  unfold ip_NumberPlay_act at h
  exact h
theorem ok_NumberPlay_act (T : Tx P w K mg base) : FnOk P w K mg base CX0 3 T.a_NumberPlay_act T.d_NumberPlay_act ["self", "act"] (ip_NumberPlay_act K T.C_NumberPlay) := by
  have G_NumberPlay_send := ok_NumberPlay_send T
  have G_NumberPlay_come := ok_NumberPlay_come T
  have G_NumberPlay_hear := ok_NumberPlay_hear T
  refine T.p_NumberPlay_act.F.ok sc_NumberPlay_act (fun vs H Q E h => ?_) (fun cdv A outer s H vs Q E hr h => ?_)
  · obtain ⟨A, s, pn, pl, B, t, a, rfl, ht, c, hn, hl, hz, q⟩ := un_NumberPlay_act h
    rfl
  · obtain ⟨A, s, pn, pl, B, t, a, rfl, ht, c, hn, hl, hz, q⟩ := un_NumberPlay_act h
    refine ⟨_, (pss_cons (ps_set (i := 2) sc_NumberPlay_act.nd rfl (Or.inl rfl) (pe_ix ix_tupM (pv 1) pe_int (fun _ _ => rfl))) (pss_one (ps_ifM (pt_cmpR op_eq (pv 2) pe_str (nomark _)) (pss_one (ps_expr (meth_weak (pe_meth (pe_c (pv 0)) T.k_NumberPlay.cl T.p_NumberPlay_send.me G_NumberPlay_send (hr.mono (by decide)) T.p_NumberPlay_send.b .nil pass0 (pa_cons (pe_ix ix_tupM (pv 1) pe_int (fun _ _ => rfl)) pa_nil))))) (pss_one (ps_ifM (pt_cmpR op_eq (pv 2) pe_str (nomark _)) (pss_one (ps_expr (pe_app (pe_fldM (pv 0) T.k_NumberPlay.cl T.f_NumberPlay_back) (pe_fldM (pv 0) T.k_NumberPlay.cl T.f_NumberPlay_low)))) (pss_one (ps_ifM (PW.pt (pw_andM (pt_cmpR op_eq (pv 2) pe_str (nomark _)) (pw_and1 (pt_truthM (pe_fldM (pv 0) T.k_NumberPlay.cl T.f_NumberPlay_air) (by intro _; rfl))))) (pss_one (ps_expr (meth_weak (pe_meth0 (pe_c (pv 0)) T.k_NumberPlay.cl T.p_NumberPlay_come.me G_NumberPlay_come (hr.mono (by decide)) T.p_NumberPlay_come.b .nil pass0)))) (pss_one (ps_ifM (PW.pt (pw_andM (pt_cmpR op_eq (pv 2) pe_str (nomark _)) (pw_and1 (pt_truthM (pe_fldM (pv 0) T.k_NumberPlay.cl T.f_NumberPlay_air) (by intro _; rfl))))) (pss_one (ps_expr (pe_pop (pe_fldM (pv 0) T.k_NumberPlay.cl T.f_NumberPlay_air) pe_int))) (pss_one (ps_ifM (PW.pt (pw_andM (pt_cmpR op_eq (pv 2) pe_str (nomark _)) (pw_and1 (pt_truthM (pe_fldM (pv 0) T.k_NumberPlay.cl T.f_NumberPlay_air) (by intro _; rfl))))) (pss_one (ps_expr (pe_insert (pe_fldM (pv 0) T.k_NumberPlay.cl T.f_NumberPlay_air) pe_int (pe_ix ix_listM (pe_fldM (pv 0) T.k_NumberPlay.cl T.f_NumberPlay_air) pe_int (fun _ _ => rfl))))) (pss_one (ps_ifM (PW.pt (pw_andM (pt_cmpR op_eq (pv 2) pe_str (nomark _)) (pw_and1 (pt_truthM (pe_fldM (pv 0) T.k_NumberPlay.cl T.f_NumberPlay_back) (by intro _; rfl))))) (pss_one (ps_expr (meth_weak (pe_meth0 (pe_c (pv 0)) T.k_NumberPlay.cl T.p_NumberPlay_hear.me G_NumberPlay_hear (hr.mono (by decide)) T.p_NumberPlay_hear.b .nil pass0)))) (pss_one (ps_ifM (PW.pt (pw_andM (pt_cmpR op_eq (pv 2) pe_str (nomark _)) (pw_and1 (pt_truthM (pe_fldM (pv 0) T.k_NumberPlay.cl T.f_NumberPlay_back) (by intro _; rfl))))) (pss_one (ps_expr (pe_pop (pe_fldM (pv 0) T.k_NumberPlay.cl T.f_NumberPlay_back) pe_int))) pss_nil))))))))))))))), ?_⟩
    have w : Own H B A.as B (s.cells T.C_NumberPlay A pn pl) H := c.start
    have hza := hz.air
    have hzb := hz.back
    cases a with
    | send n =>
      (repeat walk_at "rd")
      refine rd_ixT (by walk_at "sq") rfl ?_
      (repeat walk_at "rd")
      refine br_t rfl ?_
      (repeat walk_at "rd")
      refine rd_ixT (by walk_at "sq") rfl ?_
      (repeat walk_at "rd")
      refine op_NumberPlay_send ⟨A, s, pn, pl, B, n, rfl, c, hn, hl, hz, fun B' H' pn' pl' w' hn' hl' => ?_⟩
      (repeat walk_at "rd")
      exact q B' H' pn' pl' w' hn' hl'
    | tell =>
      (repeat walk_at "rd")
      refine rd_ixT (by walk_at "sq") rfl ?_
      (repeat walk_at "rd")
      refine br_f (by decide) ?_
      (repeat walk_at "rd")
      refine br_t rfl ?_
      (repeat walk_at "rd")
      refine rd_app (by walk_at "hp") (by rw [List.length_map]; omega) ?_
      have w2 := w.set 3 rfl (.lst (s.back.map V.int ++ [.int s.low]))
      rw [snocI] at w2 ⊢
      exact q B _ pn pl w2 hn hl
    | come =>
      (repeat walk_at "rd")
      refine rd_ixT (by walk_at "sq") rfl ?_
      (repeat walk_at "rd")
      refine br_f (by decide) ?_
      (repeat walk_at "rd")
      refine br_f (by decide) ?_
      (repeat walk_at "rd")
      refine br_t rfl ?_
      (repeat walk_at "rd")
      refine br_b (fun h => ?_) (fun h => ?_)
      · (repeat walk_at "rd")
        have h0 : s.air ≠ [] := fun e => by
          rw [e] at h
          cases h
        refine op_NumberPlay_come ⟨A, s, pn, pl, B, rfl, c, hn, hl, hz, h0, fun B' H' pn' pl' w' hn' hl' => ?_⟩
        (repeat walk_at "rd")
        exact q B' H' pn' pl' w' hn' hl'
      · repeat (first | walk_at "rd" | refine br_f (by decide) ?_)
        have h0 : s.air = [] := by
          cases e : s.air with
          | nil => rfl
          | cons x r =>
            rw [e] at h
            cases h
        have e : s.step .come = s := by
          obtain ⟨bits, win, base, next, low, ahead, air, back, wn, wl⟩ := s
          dsimp only at h0
          subst h0
          rfl
        rw [e] at q
        exact q B H pn pl w hn hl
    | lose =>
      (repeat walk_at "rd")
      refine rd_ixT (by walk_at "sq") rfl ?_
      (repeat walk_at "rd")
      refine br_f (by decide) ?_
      (repeat walk_at "rd")
      refine br_f (by decide) ?_
      (repeat walk_at "rd")
      refine br_f (by decide) ?_
      (repeat walk_at "rd")
      refine br_t rfl ?_
      (repeat walk_at "rd")
      refine br_b (fun h => ?_) (fun h => ?_)
      · (repeat walk_at "rd")
        have h0 : s.air ≠ [] := fun e => by
          rw [e] at h
          cases h
        obtain ⟨x, r, e⟩ : ∃ x r, s.air = x :: r := by
          cases e : s.air with
          | nil => exact absurd e h0
          | cons x r => exact ⟨x, r, rfl⟩
        have ha : H A.air = some (.lst (.int x :: r.map V.int)) := by
          rw [w.mem (p := A.air) (o := .lst (s.air.map V.int)) (by exact .tail _ (.tail _ (.head _))), e]
          rfl
        refine rd_pop0 ha ?_
        have w2 := w.set 2 rfl (.lst (r.map V.int))
        have e2 : s.air.tail = r := by rw [e]; rfl
        refine q B _ pn pl ?_ hn hl
        show Own H B A.as B (({ s with air := s.air.tail } : PlS).cells T.C_NumberPlay A pn pl) _
        rw [e2]
        exact w2
      · repeat (first | walk_at "rd" | refine br_f (by decide) ?_)
        have h0 : s.air = [] := by
          cases e : s.air with
          | nil => rfl
          | cons x r =>
            rw [e] at h
            cases h
        have e : s.step .lose = s := by
          obtain ⟨bits, win, base, next, low, ahead, air, back, wn, wl⟩ := s
          dsimp only at h0
          subst h0
          rfl
        rw [e] at q
        exact q B H pn pl w hn hl
    | double =>
      (repeat walk_at "rd")
      refine rd_ixT (by walk_at "sq") rfl ?_
      (repeat walk_at "rd")
      refine br_f (by decide) ?_
      (repeat walk_at "rd")
      refine br_f (by decide) ?_
      (repeat walk_at "rd")
      refine br_f (by decide) ?_
      (repeat walk_at "rd")
      refine br_f (by decide) ?_
      (repeat walk_at "rd")
      refine br_t rfl ?_
      (repeat walk_at "rd")
      refine br_b (fun h => ?_) (fun h => ?_)
      · (repeat walk_at "rd")
        have h0 : s.air ≠ [] := fun e => by
          rw [e] at h
          cases h
        obtain ⟨x, r, e⟩ : ∃ x r, s.air = x :: r := by
          cases e : s.air with
          | nil => exact absurd e h0
          | cons x r => exact ⟨x, r, rfl⟩
        have ha : H A.air = some (.lst (.int x :: r.map V.int)) := by
          rw [w.mem (p := A.air) (o := .lst (s.air.map V.int)) (by exact .tail _ (.tail _ (.head _))), e]
          rfl
        (repeat walk_at "rd")
        refine rd_ixL (sq_of ha) (at_of (j := 0) rfl rfl) ?_
        refine rd_insert ha (by rw [List.length_cons, List.length_map]; rw [e, List.length_cons] at hza; omega) (by decide) (by decide) ?_
        have w2 := w.set 2 rfl (.lst (.int x :: .int x :: r.map V.int))
        have e2 : (match s.air with | [] => [] | y :: r2 => y :: y :: r2) = x :: x :: r := by rw [e]
        refine q B _ pn pl ?_ hn hl
        show Own H B A.as B (({ s with air := match s.air with | [] => [] | y :: r2 => y :: y :: r2 } : PlS).cells T.C_NumberPlay A pn pl) _
        rw [e2]
        exact w2
      · repeat (first | walk_at "rd" | refine br_f (by decide) ?_)
        have h0 : s.air = [] := by
          cases e : s.air with
          | nil => rfl
          | cons x r =>
            rw [e] at h
            cases h
        have e : s.step .double = s := by
          obtain ⟨bits, win, base, next, low, ahead, air, back, wn, wl⟩ := s
          dsimp only at h0
          subst h0
          rfl
        rw [e] at q
        exact q B H pn pl w hn hl
    | hear =>
      (repeat walk_at "rd")
      refine rd_ixT (by walk_at "sq") rfl ?_
      (repeat walk_at "rd")
      refine br_f (by decide) ?_
      (repeat walk_at "rd")
      refine br_f (by decide) ?_
      (repeat walk_at "rd")
      refine br_f (by decide) ?_
      (repeat walk_at "rd")
      refine br_f (by decide) ?_
      (repeat walk_at "rd")
      refine br_f (by decide) ?_
      (repeat walk_at "rd")
      refine br_t rfl ?_
      (repeat walk_at "rd")
      refine br_b (fun h => ?_) (fun h => ?_)
      · (repeat walk_at "rd")
        have h0 : s.back ≠ [] := fun e => by
          rw [e] at h
          cases h
        refine op_NumberPlay_hear ⟨A, s, pn, pl, B, rfl, c, hn, hl, hz, h0, fun B' H' pn' pl' w' hn' hl' => ?_⟩
        (repeat walk_at "rd")
        exact q B' H' pn' pl' w' hn' hl'
      · repeat (first | walk_at "rd" | refine br_f (by decide) ?_)
        have h0 : s.back = [] := by
          cases e : s.back with
          | nil => rfl
          | cons x r =>
            rw [e] at h
            cases h
        have e : s.step .hear = s := by
          obtain ⟨bits, win, base, next, low, ahead, air, back, wn, wl⟩ := s
          dsimp only at h0
          subst h0
          rfl
        rw [e] at q
        exact q B H pn pl w hn hl
    | miss =>
      (repeat walk_at "rd")
      refine rd_ixT (by walk_at "sq") rfl ?_
      (repeat walk_at "rd")
      refine br_f (by decide) ?_
      (repeat walk_at "rd")
      refine br_f (by decide) ?_
      (repeat walk_at "rd")
      refine br_f (by decide) ?_
      (repeat walk_at "rd")
      refine br_f (by decide) ?_
      (repeat walk_at "rd")
      refine br_f (by decide) ?_
      (repeat walk_at "rd")
      refine br_f (by decide) ?_
      (repeat walk_at "rd")
      refine br_t rfl ?_
      (repeat walk_at "rd")
      refine br_b (fun h => ?_) (fun h => ?_)
      · (repeat walk_at "rd")
        have h0 : s.back ≠ [] := fun e => by
          rw [e] at h
          cases h
        obtain ⟨x, r, e⟩ : ∃ x r, s.back = x :: r := by
          cases e : s.back with
          | nil => exact absurd e h0
          | cons x r => exact ⟨x, r, rfl⟩
        have ha : H A.back = some (.lst (.int x :: r.map V.int)) := by
          rw [w.mem (p := A.back) (o := .lst (s.back.map V.int)) (by exact .tail _ (.tail _ (.tail _ (.head _)))), e]
          rfl
        refine rd_pop0 ha ?_
        have w2 := w.set 3 rfl (.lst (r.map V.int))
        have e2 : s.back.tail = r := by rw [e]; rfl
        refine q B _ pn pl ?_ hn hl
        show Own H B A.as B (({ s with back := s.back.tail } : PlS).cells T.C_NumberPlay A pn pl) _
        rw [e2]
        exact w2
      · repeat (first | walk_at "rd" | refine br_f (by decide) ?_)
        have h0 : s.back = [] := by
          cases e : s.back with
          | nil => rfl
          | cons x r =>
            rw [e] at h
            cases h
        have e : s.step .miss = s := by
          obtain ⟨bits, win, base, next, low, ahead, air, back, wn, wl⟩ := s
          dsimp only at h0
          subst h0
          rfl
        rw [e] at q
        exact q B H pn pl w hn hl
def initS (bits win : Int) : PlS := ⟨bits, win, 0, 0, 0, [], [], [], [], []⟩
def sp_NumberPlay___init__ (K : PySem.W.Frag) (C : Addr) : Sp := fun vs H Q _ => ∃ (p dx : Addr) (bits win : Int) (B : Hp), vs = [.ref p, .int bits, .int win] ∧ Cells H B [(p, .ins C dx [])] ∧
  ∀ (A : PlA) (H' : Hp), A.p = p → A.dx = dx → Own H B [p] B ((initS bits win).cells C A [] []) H' → Q .non H'
@[irreducible] def ip_NumberPlay___init__ (K : PySem.W.Frag) (C : Addr) : Sp := sp_NumberPlay___init__ K C
theorem op_NumberPlay___init__ {K : PySem.W.Frag} {C : Addr} {vs : List V} {H : Hp} {Q : VK} {E : XK} (h : sp_NumberPlay___init__ K C vs H Q E) : ip_NumberPlay___init__ K C vs H Q E := by
  unfold ip_NumberPlay___init__
  exact h
theorem un_NumberPlay___init__ {K : PySem.W.Frag} {C : Addr} {vs : List V} {H : Hp} {Q : VK} {E : XK} (h : ip_NumberPlay___init__ K C vs H Q E) : sp_NumberPlay___init__ K C vs H Q E := by
  unfold ip_NumberPlay___init__ at h
  exact h
theorem ok_NumberPlay___init__ (T : Tx P w K mg base) : FnOk P w K mg base CX0 1 T.a_NumberPlay___init__ T.d_NumberPlay___init__ ["self", "bits", "window"] (ip_NumberPlay___init__ K T.C_NumberPlay) := by
  refine T.p_NumberPlay___init__.F.ok sc_NumberPlay___init__ (fun vs H Q E h => ?_) (fun cdv A outer s H vs Q E hr h => ?_)
  · obtain ⟨p, dx, bits, win, B, rfl, c, q⟩ := un_NumberPlay___init__ h
    rfl
  · obtain ⟨p, dx, bits, win, B, rfl, c, q⟩ := un_NumberPlay___init__ h
    refine ⟨_, (pss_cons (ps_fldM (pv 0) (pv 1) T.k_NumberPlay.cl T.f_NumberPlay_bits) (pss_cons (ps_fldM (pv 0) (pv 2) T.k_NumberPlay.cl T.f_NumberPlay_window) (pss_cons (ps_fldM (pv 0) pe_int T.k_NumberPlay.cl T.f_NumberPlay_base) (pss_cons (ps_fldM (pv 0) pe_int T.k_NumberPlay.cl T.f_NumberPlay_next) (pss_cons (ps_fldM (pv 0) pe_int T.k_NumberPlay.cl T.f_NumberPlay_low) (pss_cons (ps_fldM (pv 0) pe_dnewK T.k_NumberPlay.cl T.f_NumberPlay_ahead) (pss_cons (ps_fldM (pv 0) (pe_lstM pa_nil) T.k_NumberPlay.cl T.f_NumberPlay_air) (pss_cons (ps_fldM (pv 0) (pe_lstM pa_nil) T.k_NumberPlay.cl T.f_NumberPlay_back) (pss_cons (ps_fldM (pv 0) (pe_lstM pa_nil) T.k_NumberPlay.cl T.f_NumberPlay_wrong_numbers) (pss_one (ps_fldM (pv 0) (pe_lstM pa_nil) T.k_NumberPlay.cl T.f_NumberPlay_wrong_lows))))))))))), ?_⟩
    have w0 : Own H B [p] B [(p, .ins T.C_NumberPlay dx [])] H := c.start
    (repeat walk_at "rd")
    refine rd_putF (by walk_at "hp") (by exact Nat.le_of_ble_eq_true rfl) rfl ?_
    have w1 : Own H B [p] B [(p, .ins T.C_NumberPlay dx [("bits", .int bits)])] _ := w0.set 0 rfl (.ins T.C_NumberPlay dx [("bits", .int bits)])
    (repeat walk_at "rd")
    refine rd_putF (by walk_at "hp") (by exact Nat.le_of_ble_eq_true rfl) rfl ?_
    have w2 : Own H B [p] B [(p, .ins T.C_NumberPlay dx [("bits", .int bits), ("window", .int win)])] _ := w1.set 0 rfl (.ins T.C_NumberPlay dx [("bits", .int bits), ("window", .int win)])
    (repeat walk_at "rd")
    refine rd_putF (by walk_at "hp") (by exact Nat.le_of_ble_eq_true rfl) rfl ?_
    have w3 : Own H B [p] B [(p, .ins T.C_NumberPlay dx [("bits", .int bits), ("window", .int win), ("base", .int 0)])] _ := w2.set 0 rfl (.ins T.C_NumberPlay dx [("bits", .int bits), ("window", .int win), ("base", .int 0)])
    (repeat walk_at "rd")
    refine rd_putF (by walk_at "hp") (by exact Nat.le_of_ble_eq_true rfl) rfl ?_
    have w4 : Own H B [p] B [(p, .ins T.C_NumberPlay dx [("bits", .int bits), ("window", .int win), ("base", .int 0), ("next", .int 0)])] _ := w3.set 0 rfl (.ins T.C_NumberPlay dx [("bits", .int bits), ("window", .int win), ("base", .int 0), ("next", .int 0)])
    (repeat walk_at "rd")
    refine rd_putF (by walk_at "hp") (by exact Nat.le_of_ble_eq_true rfl) rfl ?_
    have w5 : Own H B [p] B [(p, .ins T.C_NumberPlay dx [("bits", .int bits), ("window", .int win), ("base", .int 0), ("next", .int 0), ("low", .int 0)])] _ := w4.set 0 rfl (.ins T.C_NumberPlay dx [("bits", .int bits), ("window", .int win), ("base", .int 0), ("next", .int 0), ("low", .int 0)])
    (repeat walk_at "rd")
    intro d1 hd1
    have w5a := w5.add hd1 (same_upd (o := .dK []) hd1) upd_same
    (repeat walk_at "rd")
    refine rd_putF (by walk_at "hp") (by exact Nat.le_of_ble_eq_true rfl) rfl ?_
    have w6 : Own H B [p] B [(d1, .dK []), (p, .ins T.C_NumberPlay dx [("bits", .int bits), ("window", .int win), ("base", .int 0), ("next", .int 0), ("low", .int 0), ("ahead", .ref d1)])] _ := w5a.set 1 rfl (.ins T.C_NumberPlay dx [("bits", .int bits), ("window", .int win), ("base", .int 0), ("next", .int 0), ("low", .int 0), ("ahead", .ref d1)])
    (repeat walk_at "rd")
    intro d2 G2 hd2 s2 e2
    have w6a := w6.add hd2 s2 e2
    (repeat walk_at "rd")
    refine rd_putF (by walk_at "hp") (by exact Nat.le_of_ble_eq_true rfl) rfl ?_
    have w7 : Own H B [p] B [(d2, .lst []), (d1, .dK []), (p, .ins T.C_NumberPlay dx [("bits", .int bits), ("window", .int win), ("base", .int 0), ("next", .int 0), ("low", .int 0), ("ahead", .ref d1), ("air", .ref d2)])] _ := w6a.set 2 rfl (.ins T.C_NumberPlay dx [("bits", .int bits), ("window", .int win), ("base", .int 0), ("next", .int 0), ("low", .int 0), ("ahead", .ref d1), ("air", .ref d2)])
    (repeat walk_at "rd")
    intro d3 G3 hd3 s3 e3
    have w7a := w7.add hd3 s3 e3
    (repeat walk_at "rd")
    refine rd_putF (by walk_at "hp") (by exact Nat.le_of_ble_eq_true rfl) rfl ?_
    have w8 : Own H B [p] B [(d3, .lst []), (d2, .lst []), (d1, .dK []), (p, .ins T.C_NumberPlay dx [("bits", .int bits), ("window", .int win), ("base", .int 0), ("next", .int 0), ("low", .int 0), ("ahead", .ref d1), ("air", .ref d2), ("back", .ref d3)])] _ := w7a.set 3 rfl (.ins T.C_NumberPlay dx [("bits", .int bits), ("window", .int win), ("base", .int 0), ("next", .int 0), ("low", .int 0), ("ahead", .ref d1), ("air", .ref d2), ("back", .ref d3)])
    (repeat walk_at "rd")
    intro d4 G4 hd4 s4 e4
    have w8a := w8.add hd4 s4 e4
    (repeat walk_at "rd")
    refine rd_putF (by walk_at "hp") (by exact Nat.le_of_ble_eq_true rfl) rfl ?_
    have w9 : Own H B [p] B [(d4, .lst []), (d3, .lst []), (d2, .lst []), (d1, .dK []), (p, .ins T.C_NumberPlay dx [("bits", .int bits), ("window", .int win), ("base", .int 0), ("next", .int 0), ("low", .int 0), ("ahead", .ref d1), ("air", .ref d2), ("back", .ref d3), ("wrong_numbers", .ref d4)])] _ := w8a.set 4 rfl (.ins T.C_NumberPlay dx [("bits", .int bits), ("window", .int win), ("base", .int 0), ("next", .int 0), ("low", .int 0), ("ahead", .ref d1), ("air", .ref d2), ("back", .ref d3), ("wrong_numbers", .ref d4)])
    (repeat walk_at "rd")
    intro d5 G5 hd5 s5 e5
    have w9a := w9.add hd5 s5 e5
    (repeat walk_at "rd")
    refine rd_putF (by walk_at "hp") (by exact Nat.le_of_ble_eq_true rfl) rfl ?_
    have w10 : Own H B [p] B [(d5, .lst []), (d4, .lst []), (d3, .lst []), (d2, .lst []), (d1, .dK []), (p, .ins T.C_NumberPlay dx [("bits", .int bits), ("window", .int win), ("base", .int 0), ("next", .int 0), ("low", .int 0), ("ahead", .ref d1), ("air", .ref d2), ("back", .ref d3), ("wrong_numbers", .ref d4), ("wrong_lows", .ref d5)])] _ := w9a.set 5 rfl (.ins T.C_NumberPlay dx [("bits", .int bits), ("window", .int win), ("base", .int 0), ("next", .int 0), ("low", .int 0), ("ahead", .ref d1), ("air", .ref d2), ("back", .ref d3), ("wrong_numbers", .ref d4), ("wrong_lows", .ref d5)])
    refine q ⟨p, dx, d1, d2, d3, d4, d5⟩ _ rfl rfl ?_
    refine w10.sub (fun c h => ?_) ?_
    · rcases List.mem_cons.mp h with h | h
      · exact .tail _ (.tail _ (.tail _ (.tail _ (.tail _ (h ▸ .head _)))))
      rcases List.mem_cons.mp h with h | h
      · exact .tail _ (.tail _ (.tail _ (.tail _ (h ▸ .head _))))
      rcases List.mem_cons.mp h with h | h
      · exact .tail _ (.tail _ (.tail _ (h ▸ .head _)))
      rcases List.mem_cons.mp h with h | h
      · exact .tail _ (.tail _ (h ▸ .head _))
      rcases List.mem_cons.mp h with h | h
      · exact .tail _ (h ▸ .head _)
      · exact List.mem_singleton.mp h ▸ .head _
    · have nd := w10.c.nd
      have e := List.pairwise_reverse.mpr (nd.imp fun h => Ne.symm h)
      exact e
def runS (s : PlS) (as : List Act) : PlS := as.foldl PlS.step s
def sp_play_numbers (K : PySem.W.Frag) : Sp := fun vs H Q _ => ∃ (bits win : Int) (a : Addr) (ps : List Addr) (as : List Act), vs = [.int bits, .int win, .ref a] ∧ SqL K H a (ps.map V.ref) ∧ ActsL H ps (as.map Act.v) ∧ (3 ≤ bits ∧ bits ≤ 6) ∧ as.length ≤ 1000 ∧
  ∀ (t x y : Addr) (B H' : Hp) (pn pl : List Addr), Same H H' → Same B H' → H t = none → B t = some (.tup [.ref x, .ref y]) → B x = some (.lst (pn.map V.ref)) → B y = some (.lst (pl.map V.ref)) → PrsAt B pn (runS (initS bits win) as).wn → PrsAt B pl (runS (initS bits win) as).wl → Q (.ref t) H'
theorem putK_le (c : List (Key × V)) (k : Key) (x : V) : (putK c k x).length ≤ c.length + 1 := by
  unfold putK
  split
  · rw [List.length_map]
    omega
  · rw [List.length_append]
    exact Nat.le_refl _
theorem small_step {s : PlS} {m : Nat} (h : Small s m) (a : Act) : Small (s.step a) (m + 1) := by
  obtain ⟨bits, win, base, next, low, ahead, air, back, wn, wl⟩ := s
  obtain ⟨h1, h2, h3, h4, h5, h6⟩ := h
  dsimp only at h1 h2 h3 h4 h5 h6
  cases a with
  | send n =>
    show Small (PlS.sendS _ _) _
    unfold PlS.sendS
    split
    · exact ⟨by dsimp only; omega, by dsimp only; omega, by dsimp only; omega, by dsimp only; omega, by dsimp only; omega, h6⟩
    · exact ⟨by dsimp only; rw [List.length_append, List.length_singleton]; omega, by dsimp only; omega, by dsimp only; omega, by dsimp only; omega, by dsimp only; omega, h6⟩
  | come =>
    show Small (PlS.comeS _) _
    unfold PlS.comeS
    cases air with
    | nil => exact ⟨by dsimp only; omega, by dsimp only; omega, by dsimp only; omega, by dsimp only; omega, by dsimp only; omega, h6⟩
    | cons n r =>
      rw [List.length_cons] at h1
      dsimp only
      split
      · exact ⟨by dsimp only; omega, by dsimp only; omega, by dsimp only; omega, by dsimp only; omega, by dsimp only; omega, h6⟩
      · refine ⟨?_, ?_, ?_, ?_, ?_, h6⟩
        · show r.length ≤ _
          omega
        · show back.length ≤ _
          omega
        · refine Nat.le_trans (closeF_le _ _ _) ?_
          refine Nat.le_trans (putK_le _ _ _) ?_
          show ahead.length + 1 ≤ _
          omega
        · show (if _ then wn else wn ++ [_]).length ≤ _
          split
          · omega
          · rw [List.length_append, List.length_singleton]
            omega
        · show wl.length ≤ _
          omega
  | lose => exact ⟨by show air.tail.length ≤ _; rw [List.length_tail]; omega, by show back.length ≤ _; omega, by show ahead.length ≤ _; omega, by show wn.length ≤ _; omega, by show wl.length ≤ _; omega, h6⟩
  | double =>
    refine ⟨?_, by show back.length ≤ _; omega, by show ahead.length ≤ _; omega, by show wn.length ≤ _; omega, by show wl.length ≤ _; omega, h6⟩
    show (match air with | [] => [] | x :: r => x :: x :: r).length ≤ _
    cases air with
    | nil => exact Nat.zero_le _
    | cons x r =>
      rw [List.length_cons] at h1
      show r.length + 1 + 1 ≤ _
      omega
  | tell => exact ⟨by show air.length ≤ _; omega, by show (back ++ [low]).length ≤ _; rw [List.length_append, List.length_singleton]; omega, by show ahead.length ≤ _; omega, by show wn.length ≤ _; omega, by show wl.length ≤ _; omega, h6⟩
  | hear =>
    show Small (PlS.hearS _) _
    unfold PlS.hearS
    cases back with
    | nil => exact ⟨by dsimp only; omega, by dsimp only; omega, by dsimp only; omega, by dsimp only; omega, by dsimp only; omega, h6⟩
    | cons n r =>
      rw [List.length_cons] at h2
      dsimp only
      split
      · exact ⟨by dsimp only; omega, by dsimp only; omega, by dsimp only; omega, by dsimp only; omega, by dsimp only; omega, h6⟩
      · refine ⟨by dsimp only; omega, by dsimp only; omega, by dsimp only; omega, by dsimp only; omega, ?_, h6⟩
        dsimp only
        split
        · omega
        · rw [List.length_append, List.length_singleton]
          omega
  | miss => exact ⟨by show air.length ≤ _; omega, by show back.tail.length ≤ _; rw [List.length_tail]; omega, by show ahead.length ≤ _; omega, by show wn.length ≤ _; omega, by show wl.length ≤ _; omega, h6⟩
theorem ActsL.get {H : Hp} : ∀ {ps : List Addr} {as : List (List V)}, ActsL H ps as → ∀ {i : Nat} {p : Addr}, ps[i]? = some p → ∃ a, as[i]? = some a ∧ H p = some (.tup a)
  | _, _, .nil, i, p, e => by cases i <;> cases e
  | _, _, .cons h t, i, p, e => by
    cases i with
    | zero =>
      cases e
      exact ⟨_, rfl, h⟩
    | succ i => exact t.get (i := i) e
theorem small_run (bits win : Int) (hb : 3 ≤ bits ∧ bits ≤ 6) : ∀ as : List Act, Small (runS (initS bits win) as) as.length := by
  have key : ∀ (as : List Act) (s : PlS) (m : Nat), Small s m → Small (runS s as) (m + as.length) := by
    intro as
    induction as with
    | nil => exact fun s m h => h
    | cons a r ih =>
      intro s m h
      have := ih (s.step a) (m + 1) (small_step h a)
      rw [List.length_cons]
      have e : m + 1 + r.length = m + (r.length + 1) := by omega
      rw [← e]
      exact this
  intro as
  have := key as (initS bits win) 0 ⟨Nat.le_refl _, Nat.le_refl _, Nat.le_refl _, Nat.le_refl _, Nat.le_refl _, hb⟩
  rwa [Nat.zero_add] at this
theorem Small.le {s : PlS} {m n : Nat} (h : Small s m) (k : m ≤ n) : Small s n := ⟨Nat.le_trans h.air k, Nat.le_trans h.back k, Nat.le_trans h.ahead k, Nat.le_trans h.wn k, Nat.le_trans h.wl k, h.bits⟩
@[irreducible] def ip_play_numbers (K : PySem.W.Frag) : Sp := sp_play_numbers K
theorem op_play_numbers {K : PySem.W.Frag} {vs : List V} {H : Hp} {Q : VK} {E : XK} (h : sp_play_numbers K vs H Q E) : ip_play_numbers K vs H Q E := by
  unfold ip_play_numbers
  exact h
theorem un_play_numbers {K : PySem.W.Frag} {vs : List V} {H : Hp} {Q : VK} {E : XK} (h : ip_play_numbers K vs H Q E) : sp_play_numbers K vs H Q E := by
  unfold ip_play_numbers at h
  exact h
theorem ok_play_numbers (T : Tx P w K mg base) : FnOk P w K mg base CX0 4 T.a_play_numbers T.d_play_numbers ["bits", "window", "acts"] (ip_play_numbers K) := by
  have G_NumberPlay___init__ := ok_NumberPlay___init__ T
  have G_NumberPlay_act := ok_NumberPlay_act T
  refine T.p_play_numbers.F.ok sc_play_numbers (fun vs H Q E h => ?_) (fun cdv A outer s H vs Q E hr h => ?_)
  · obtain ⟨bits, win, a, ps, as, rfl, hS, hA, hb, hz, q⟩ := un_play_numbers h
    rfl
  · obtain ⟨bits, win, a, ps, as, rfl, hS, hA, hb, hz, q⟩ := un_play_numbers h
    refine ⟨_, (pss_cons (ps_set (i := 3) sc_play_numbers.nd rfl (Or.inl rfl) (pe_make T.k_NumberPlay.mk' G_NumberPlay___init__ (hr.mono (by decide)) rfl T.g_NumberPlay T.p_NumberPlay___init__.b .nil pass0 (pa_cons (pv 0) (pa_cons (pv 1) pa_nil)))) (pss_cons (ps_forL PassesOwn.never rfl (pv 2) (pg_name (i := 4) sc_play_numbers.nd rfl (Or.inl rfl)) (pss_one (ps_expr (meth_weak (pe_meth (pe_c (pv 3)) T.k_NumberPlay.cl T.p_NumberPlay_act.me G_NumberPlay_act (hr.mono (by decide)) T.p_NumberPlay_act.b .nil pass0 (pa_cons (pv 4) pa_nil)))))) (pss_one (ps_ret (pe_tupM (pa_cons (pe_fldM (pv 3) T.k_NumberPlay.cl T.f_NumberPlay_wrong_numbers) (pa_cons (pe_fldM (pv 3) T.k_NumberPlay.cl T.f_NumberPlay_wrong_lows) pa_nil))))))), ?_⟩
    (repeat walk_at "rd")
    intro x dx nx ndx nxd
    have w1 : Own H H [] H [(x, .ins T.C_NumberPlay dx [])] (upd (upd H dx (.own x)) x (.ins T.C_NumberPlay dx [])) := Own.mk0.add nx ((same_upd ndx).trans (same_upd (by rw [upd_ne (Ne.symm nxd)]; exact nx))) upd_same
    refine op_NumberPlay___init__ ⟨x, dx, bits, win, H, rfl, w1.c, fun A H1 eA edx w2 => ?_⟩
    subst eA
    subst edx
    have w3 : Own H H [] H ((initS bits win).cells T.C_NumberPlay A [] []) H1 := w1.call0 w2
    refine ⟨rfl, ?_⟩
    (repeat walk_at "rd")
    refine rd_forL ?_
    (repeat walk_at "rd")
    refine ⟨a, ps.map V.ref, fun i σ H' => Stop (∃ (B : Hp) (pn pl : List Addr) (y : Option V), Own H H [] B ((runS (initS bits win) (as.take i)).cells T.C_NumberPlay A pn pl) H' ∧ PrsAt B pn (runS (initS bits win) (as.take i)).wn ∧ PrsAt B pl (runS (initS bits win) (as.take i)).wl ∧ σ = [some (.int bits), some (.int win), some (.ref a), some (.ref A.p), y]), rfl, (by walk_at "sq"), .a ⟨H, [], [], none, w3, .nil, .nil, rfl⟩, fun i σ' H' _ w => ?_, fun i y σ' H' hi w => ?_, fun σ' H' w => ?_⟩
    · obtain ⟨B, pn, pl, y, w4, _⟩ := w.un
      exact w4.same.seq hS
    · obtain ⟨B, pn, pl, y0, w4, hn, hl, rfl⟩ := w.un
      rw [List.getElem?_map] at hi
      obtain ⟨t, ht, rfl⟩ := Option.map_eq_some_iff.mp hi
      obtain ⟨av, hav, htv⟩ := hA.get ht
      rw [List.getElem?_map] at hav
      obtain ⟨ac, hac, rfl⟩ := Option.map_eq_some_iff.mp hav
      have hil := (List.getElem?_eq_some_iff.mp hac).1
      have et : as.take (i + 1) = as.take i ++ [ac] := by
        rw [List.take_add_one, hac]
        rfl
      have er : runS (initS bits win) (as.take (i + 1)) = (runS (initS bits win) (as.take i)).step ac := by
        rw [et]
        unfold runS
        rw [List.foldl_append]
        rfl
      have hsm := (small_run bits win hb (as.take i)).le (n := 10000) (by rw [List.length_take]; omega)
      (repeat walk_at "rd")
      refine op_NumberPlay_act ⟨A, _, pn, pl, B, t, ac, rfl, w4.grow _ _ htv, w4.c, hn, hl, hsm, fun B' H2 pn' pl' w5 hn' hl' => ?_⟩
      (repeat walk_at "rd")
      refine .a ⟨B', pn', pl', _, ?_, ?_, ?_, rfl⟩
      · rw [er]
        exact w4.call0 w5
      · rw [er]
        exact hn'
      · rw [er]
        exact hl'
    · obtain ⟨B, pn, pl, y, w4, hn, hl, rfl⟩ := w.un
      rw [List.length_map, hA.length, List.length_map, List.take_length] at w4 hn hl
      (repeat walk_at "rd")
      intro t H2 n2 s2 e2
      have nn : ∀ b o, (b, o) ∈ (runS (initS bits win) as).cells T.C_NumberPlay A pn pl → H b = none := fun b o h => (w4.own b o h).elim (fun z => nomatch z) id
      have m1 : (A.wn, .lst (pn.map V.ref)) ∈ (runS (initS bits win) as).cells T.C_NumberPlay A pn pl := .tail _ (.tail _ (.tail _ (.tail _ (.head _))))
      have m2 : (A.wl, .lst (pl.map V.ref)) ∈ (runS (initS bits win) as).cells T.C_NumberPlay A pn pl := .tail _ (.tail _ (.tail _ (.tail _ (.tail _ (.head _)))))
      have w5 : Own H H [] B [(A.wn, .lst (pn.map V.ref)), (A.wl, .lst (pl.map V.ref))] H' := w4.sub (fun c h => by
        rcases List.mem_cons.mp h with h | h
        · exact h ▸ m1
        · exact List.mem_singleton.mp h ▸ m2) (by
        have nd := w4.c.nd
        exact (List.nodup_cons.mp (List.nodup_cons.mp (List.nodup_cons.mp (List.nodup_cons.mp nd).2).2).2).2)
      obtain ⟨B1, sB1, hB1, w6⟩ := w5.ice (nn _ _ m1)
      obtain ⟨B2, sB2, hB2, w7⟩ := w6.ice (nn _ _ m2)
      obtain ⟨B3, sB3, hB3, _, w8⟩ := w7.ro n2 s2 e2
      exact q t A.wn A.wl B3 H2 pn pl w8.same w8.imm (same_none w7.same n2) hB3 (sB3 _ _ (sB2 _ _ hB1)) (sB3 _ _ hB2) (hn.mono ((sB1.trans sB2).trans sB3)) (hl.mono ((sB1.trans sB2).trans sB3))
def tapeL (a : Addr) (i r z : Int) : HO := .lst [.ref a, .int i, .int r, .int z]
structure TapeOk2 (ns : List Int) (i r z : Int) : Prop where
  i : 0 ≤ i ∧ i ≤ (ns.length : Int)
  r : 0 ≤ r
  z : 0 ≤ z ∧ z < 2147483647
def sp_u_law_acts (K : PySem.W.Frag) : Sp := fun vs H Q _ => ∃ (t a : Addr) (ns : List Int) (i r z bits win : Int) (B : Hp), vs = [.ref t, .int bits, .int win] ∧ Cells H B [(t, tapeL a i r z)] ∧ SqL K B a (ns.map V.int) ∧ (0 ≤ i ∧ i ≤ (ns.length : Int)) ∧ 0 ≤ r ∧ (0 ≤ z ∧ z < 2147483647) ∧ (1 ≤ win ∧ win ≤ 100) ∧
  ∀ (B' H' : Hp) (p : Addr) (ps : List Addr) (as : List Act) (i' r' z' : Int), Own H B [t] B' [(t, tapeL a i' r' z')] H' → TapeOk2 ns i' r' z' → B' p = some (.lst (ps.map V.ref)) → ActsL B' ps (as.map Act.v) → as.length ≤ 200 → Q (.ref p) H'
theorem ActsL.snoc {H : Hp} {ps : List Addr} {as : List Act} {p : Addr} {a : Act} (h : ActsL H ps (as.map Act.v)) (e : H p = some (.tup a.v)) : ActsL H (ps ++ [p]) ((as ++ [a]).map Act.v) := by
  rw [List.map_append]
  exact h.app (.cons e .nil)
@[irreducible] def ip_u_law_acts (K : PySem.W.Frag) : Sp := sp_u_law_acts K
theorem op_u_law_acts {K : PySem.W.Frag} {vs : List V} {H : Hp} {Q : VK} {E : XK} (h : sp_u_law_acts K vs H Q E) : ip_u_law_acts K vs H Q E := by
  unfold ip_u_law_acts
  exact h
theorem un_u_law_acts {K : PySem.W.Frag} {vs : List V} {H : Hp} {Q : VK} {E : XK} (h : ip_u_law_acts K vs H Q E) : sp_u_law_acts K vs H Q E := by
  unfold ip_u_law_acts at h
  exact h
theorem ok_u_law_acts (T : Tx P w K mg base) : FnOk P w K mg base CX0 2 T.a_u_law_acts T.d_u_law_acts ["tape", "bits", "window"] (ip_u_law_acts K) := by
  have G_u_law_next := ok_u_law_next T
  refine T.p_u_law_acts.F.ok sc_u_law_acts (fun vs H Q E h => ?_) (fun cdv A outer s H vs Q E hr h => ?_)
  · obtain ⟨t, a, ns, i, r, z, bits, win, B, rfl, c, hS, hi, hrr, hz, hw, q⟩ := un_u_law_acts h
    rfl
  · obtain ⟨t, a, ns, i, r, z, bits, win, B, rfl, c, hS, hi, hrr, hz, hw, q⟩ := un_u_law_acts h
    refine ⟨_, (pss_cons (ps_set (i := 3) sc_u_law_acts.nd rfl (Or.inl rfl) (pe_lstM pa_nil)) (pss_cons (ps_set (i := 4) sc_u_law_acts.nd rfl (Or.inl rfl) pe_int) (pss_cons (ps_set (i := 5) sc_u_law_acts.nd rfl (Or.inl rfl) pe_int) (pss_cons (ps_forR1 PassesOwn.never rfl rfl T.n_range (pa_cons (pe_ix ix_tupM (pe_tupM (pa_cons pe_int (pa_cons pe_int (pa_cons pe_int (pa_cons pe_int pa_nil))))) (pe_call G_u_law_next (hr.mono (by decide)) rfl T.p_u_law_next.m T.p_u_law_next.F.kp T.p_u_law_next.b .nil pass0 (pa_cons (pv 0) (pa_cons pe_int pa_nil))) (fun _ _ => rfl)) pa_nil) (pg_name (i := 6) sc_u_law_acts.nd rfl (Or.inl rfl)) (pss_cons (ps_set (i := 7) sc_u_law_acts.nd rfl (Or.inl rfl) (pe_call G_u_law_next (hr.mono (by decide)) rfl T.p_u_law_next.m T.p_u_law_next.F.kp T.p_u_law_next.b .nil pass0 (pa_cons (pv 0) (pa_cons pe_int pa_nil)))) (pss_one (ps_ifM (pt_cmpR op_ltM (pv 7) pe_int (nomark _)) (pss_cons (ps_set (i := 8) sc_u_law_acts.nd rfl (Or.inl rfl) (pe_op op_subM (pe_op op_addM (pv 4) (pe_call G_u_law_next (hr.mono (by decide)) rfl T.p_u_law_next.m T.p_u_law_next.F.kp T.p_u_law_next.b .nil pass0 (pa_cons (pv 0) (pa_cons (pe_op op_addM (pv 2) pe_int) pa_nil)))) pe_int)) (pss_cons (ps_ifJ (pt_cmpR op_eq (pe_call G_u_law_next (hr.mono (by decide)) rfl T.p_u_law_next.m T.p_u_law_next.F.kp T.p_u_law_next.b .nil pass0 (pa_cons (pv 0) (pa_cons pe_int pa_nil))) pe_int (nomark _)) (pss_one (ps_set (i := 8) sc_u_law_acts.nd rfl (Or.inl rfl) (pv 5))) pss_nil) (pss_cons (ps_expr (pe_app (pv 3) (pe_tupM (pa_cons pe_str (pa_cons (pv 8) pa_nil))))) (pss_one (ps_ifM (PW.pt (pw_andM (pt_cmpR op_eq (pv 8) (pv 5) (nomark _)) (pw_and1 (pt_cmpR op_ltM (pv 5) (pe_op op_addM (pv 4) (pv 2)) (nomark _))))) (pss_one (ps_set (i := 5) sc_u_law_acts.nd rfl (Or.inl rfl) (pe_op op_addM (pv 5) pe_int))) pss_nil))))) (pss_one (ps_ifM (pt_cmpR op_ltM (pv 7) pe_int (nomark _)) (pss_one (ps_expr (pe_app (pv 3) (pe_tupM (pa_cons pe_str pa_nil))))) (pss_one (ps_ifM (pt_cmpR op_eq (pv 7) pe_int (nomark _)) (pss_one (ps_expr (pe_app (pv 3) (pe_ix ix_tupM (pe_tupM (pa_cons (pe_tupM (pa_cons pe_str pa_nil)) (pa_cons (pe_tupM (pa_cons pe_str pa_nil)) (pa_cons (pe_tupM (pa_cons pe_str pa_nil)) pa_nil)))) (pe_call G_u_law_next (hr.mono (by decide)) rfl T.p_u_law_next.m T.p_u_law_next.F.kp T.p_u_law_next.b .nil pass0 (pa_cons (pv 0) (pa_cons pe_int pa_nil))) (fun _ _ => rfl))))) (pss_one (ps_ifM (pt_cmpR op_ltM (pv 7) pe_int (nomark _)) (pss_one (ps_expr (pe_app (pv 3) (pe_tupM (pa_cons pe_str pa_nil))))) (pss_cons (ps_expr (pe_app (pv 3) (pe_tupM (pa_cons pe_str pa_nil)))) (pss_one (ps_set (i := 4) sc_u_law_acts.nd rfl (Or.inl rfl) (pe_callB (call_min2 rfl) (by rfl) T.n_min (by decide +kernel) (pa_cons (pv 5) (pa_cons (pe_op op_addM (pv 4) (pe_call G_u_law_next (hr.mono (by decide)) rfl T.p_u_law_next.m T.p_u_law_next.F.kp T.p_u_law_next.b .nil pass0 (pa_cons (pv 0) (pa_cons pe_int pa_nil)))) pa_nil)))))))))))))))) (pss_one (ps_ret (pv 3))))))), ?_⟩
    have w0 : Own H B [t] B [(t, tapeL a i r z)] H := c.start
    (repeat walk_at "rd")
    intro p H1 n1 s1 e1
    have w1 : Own H B [t] B [(p, .lst []), (t, tapeL a i r z)] H1 := w0.add n1 s1 e1
    (repeat walk_at "rd")
    refine rd_forR1 ?_
    (repeat walk_at "rd")
    intro t2 H2 n2 s2 e2
    have w2 := w1.more s2
    (repeat walk_at "rd")
    refine op_u_law_next ⟨t, a, ns, i, r, z, 4, rfl, (by walk_at "hp"), (by walk_at "sq"), hi, hrr, hz, ⟨by omega, by omega⟩, fun x i1 r1 z1 hx0 hx1 hi1 hr1 hz1 => ?_⟩
    have w3 : Own H B [t] B [(p, .lst []), (t, tapeL a i1 r1 z1)] _ := w2.set 1 rfl (tapeL a i1 r1 z1)
    have hm : ∃ m : Int, atI [V.int 20, V.int 40, V.int 80, V.int 200] x = some (.int m) ∧ 0 ≤ m ∧ m ≤ 200 := by
      have h : x = 0 ∨ x = 1 ∨ x = 2 ∨ x = 3 := by omega
      rcases h with e | e | e | e <;> subst e <;> exact ⟨_, rfl, by decide, by decide⟩
    obtain ⟨m, hat, hm0, hm1⟩ := hm
    have ht2 : t2 ≠ t := fun e => by
      rw [e, w1.mem (p := t) (.tail _ (.head _))] at n2
      cases n2
    have e2' : upd H2 t (tapeL a i1 r1 z1) t2 = some (.tup [.int 20, .int 40, .int 80, .int 200]) := by
      rw [upd_ne ht2]
      exact e2
    refine rd_ixT (st_of e2') hat ?_
    (repeat walk_at "rd")
    refine ⟨m, fun j σ H' => Stop (∃ (B3 : Hp) (ps : List Addr) (as : List Act) (i3 r3 z3 base foll : Int) (x6 x7 x8 : Option V), Own H B [t] B3 [(p, .lst (ps.map V.ref)), (t, tapeL a i3 r3 z3)] H' ∧ TapeOk2 ns i3 r3 z3 ∧ ActsL B3 ps (as.map Act.v) ∧ as.length = j ∧ σ = [some (.ref t), some (.int bits), some (.int win), some (.ref p), some (.int base), some (.int foll), x6, x7, x8]), rfl, ⟨by omega, by omega⟩, .a ⟨B, [], [], i1, r1, z1, 0, 0, _, _, _, w3, ⟨hi1, hr1, hz1⟩, .nil, rfl, rfl⟩, fun j σ' H' hj w => ?_, fun σ' H' w => ?_⟩
    · obtain ⟨B3, ps, as, i3, r3, z3, base, foll, x6, x7, x8, w4, hT, hA, hal, rfl⟩ := w.un
      have hpl : ps.length = as.length := by rw [hA.length, List.length_map]
      have hS3 : ∀ {B'}, Same B3 B' → SqL K B' a (ns.map V.int) := fun s => (w4.grow.trans s).seq hS
      -- an act more
      have more : ∀ (B5 H5 H6 : Hp) (i5 r5 z5 : Int) (tt : Addr) (ac : Act), Same B3 B5 → Own H B [t] B5 [(p, .lst (ps.map V.ref)), (t, tapeL a i5 r5 z5)] H5 → H5 tt = none → Same H5 H6 → H6 tt = some (.tup ac.v) →
          ∃ B6, Own H B [t] B6 [(p, .lst ((ps ++ [tt]).map V.ref)), (t, tapeL a i5 r5 z5)] (upd H6 p (.lst (ps.map V.ref ++ [.ref tt]))) ∧ ActsL B6 (ps ++ [tt]) ((as ++ [ac]).map Act.v) ∧ Same B5 B6 := by
        intro B5 H5 H6 i5 r5 z5 tt ac s35 w5 n5 s5 e5
        obtain ⟨B6, sB, hB, _, w6⟩ := w5.ro n5 s5 e5
        refine ⟨B6, ?_, (hA.mono (s35.trans sB)).snoc hB, sB⟩
        have w7 := w6.set 0 rfl (.lst (ps.map V.ref ++ [.ref tt]))
        rw [snocR] at w7 ⊢
        exact w7
      (repeat walk_at "rd")
      refine op_u_law_next ⟨t, a, ns, i3, r3, z3, 12, rfl, (by walk_at "hp"), w4.imm.seq (hS3 (Same.refl _)), hT.i, hT.r, hT.z, ⟨by omega, by omega⟩, fun kd i4 r4 z4 hk0 hk1 hi4 hr4 hz4 => ?_⟩
      have w5 : Own H B [t] B3 [(p, .lst (ps.map V.ref)), (t, tapeL a i4 r4 z4)] _ := w4.set 1 rfl (tapeL a i4 r4 z4)
      (repeat walk_at "rd")
      refine br_by (fun h => ?_) (fun h => ?_)
      · (repeat walk_at "rd")
        refine op_u_law_next ⟨t, a, ns, i4, r4, z4, win + 2, rfl, (by walk_at "hp"), w5.imm.seq (hS3 (Same.refl _)), hi4, hr4, hz4, ⟨by omega, by omega⟩, fun y i5 r5 z5 hy0 hy1 hi5 hr5 hz5 => ?_⟩
        have w6 : Own H B [t] B3 [(p, .lst (ps.map V.ref)), (t, tapeL a i5 r5 z5)] _ := w5.set 1 rfl (tapeL a i5 r5 z5)
        (repeat walk_at "rd")
        refine op_u_law_next ⟨t, a, ns, i5, r5, z5, 2, rfl, (by walk_at "hp"), w6.imm.seq (hS3 (Same.refl _)), hi5, hr5, hz5, ⟨by omega, by omega⟩, fun y2 i6 r6 z6 hy20 hy21 hi6 hr6 hz6 => ?_⟩
        have w7 : Own H B [t] B3 [(p, .lst (ps.map V.ref)), (t, tapeL a i6 r6 z6)] _ := w6.set 1 rfl (tapeL a i6 r6 z6)
        (repeat walk_at "rd")
        refine rd_ifJ (fun σ' H6 => Stop (Own H B [t] B3 [(p, .lst (ps.map V.ref)), (t, tapeL a i6 r6 z6)] H6 ∧ ∃ n : Int, σ' = [some (.ref t), some (.int bits), some (.int win), some (.ref p), some (.int base), some (.int foll), some (.int (j : Nat)), some (.int kd), some (.int n)])) (fun _ => ?_) (fun _ => ?_) (fun σ' H6 pw => ?_)
        · (repeat walk_at "rd")
          exact .a ⟨w7, _, rfl⟩
        · (repeat walk_at "rd")
          exact .a ⟨w7, _, rfl⟩
        obtain ⟨w7', n, rfl⟩ := pw.un
        (repeat walk_at "rd")
        intro tt H6 n6 s6 e6
        refine rd_app ((w7'.more s6).mem (.head _)) (by rw [List.length_map]; omega) ?_
        obtain ⟨B8, w8, hA8, sB8⟩ := more B3 _ _ _ _ _ tt (.send n) (Same.refl _) w7' n6 s6 e6
        (repeat walk_at "rd")
        refine br_eby (fun _ => ?_) (fun _ => ?_)
        · (repeat walk_at "rd")
          refine br_by (fun _ => ?_) (fun _ => ?_)
          · (repeat walk_at "rd")
            exact .a ⟨B8, _, _, _, _, _, _, _, _, _, _, w8, ⟨hi6, hr6, hz6⟩, hA8, by rw [List.length_append, List.length_singleton, hal], rfl⟩
          · (repeat walk_at "rd")
            exact .a ⟨B8, _, _, _, _, _, _, _, _, _, _, w8, ⟨hi6, hr6, hz6⟩, hA8, by rw [List.length_append, List.length_singleton, hal], rfl⟩
        · (repeat walk_at "rd")
          exact .a ⟨B8, _, _, _, _, _, _, _, _, _, _, w8, ⟨hi6, hr6, hz6⟩, hA8, by rw [List.length_append, List.length_singleton, hal], rfl⟩
      (repeat walk_at "rd")
      refine br_by (fun h2 => ?_) (fun h2 => ?_)
      · (repeat walk_at "rd")
        intro tt H6 n6 s6 e6
        refine rd_app ((w5.more s6).mem (.head _)) (by rw [List.length_map]; omega) ?_
        obtain ⟨B8, w8, hA8, sB8⟩ := more B3 _ _ _ _ _ tt .come (Same.refl _) w5 n6 s6 e6
        exact .a ⟨B8, _, _, _, _, _, _, _, _, _, _, w8, ⟨hi4, hr4, hz4⟩, hA8, by rw [List.length_append, List.length_singleton, hal], rfl⟩
      (repeat walk_at "rd")
      refine br_eby (fun h3 => ?_) (fun h3 => ?_)
      · (repeat walk_at "rd")
        intro t5 H5 n5 s5 e5
        (repeat walk_at "rd")
        intro t6 H6 n6 s6 e6
        (repeat walk_at "rd")
        intro t7 H7 n7 s7 e7
        (repeat walk_at "rd")
        intro t8 H8 n8 s8 e8
        (repeat walk_at "rd")
        obtain ⟨B5, sB5, hB5, _, w6⟩ := w5.ro n5 s5 e5
        obtain ⟨B6, sB6, hB6, _, w7⟩ := w6.ro n6 s6 e6
        obtain ⟨B7, sB7, hB7, _, w8⟩ := w7.ro n7 s7 e7
        obtain ⟨B8, sB8, hB8, _, w9⟩ := w8.ro n8 s8 e8
        refine op_u_law_next ⟨t, a, ns, i4, r4, z4, 3, rfl, (by walk_at "hp"), w9.imm.seq (hS3 (((sB5.trans sB6).trans sB7).trans sB8)), hi4, hr4, hz4, ⟨by omega, by omega⟩, fun y i5 r5 z5 hy0 hy1 hi5 hr5 hz5 => ?_⟩
        have w10 : Own H B [t] B8 [(p, .lst (ps.map V.ref)), (t, tapeL a i5 r5 z5)] _ := w9.set 1 rfl (tapeL a i5 r5 z5)
        have hA8 := hA.mono (((sB5.trans sB6).trans sB7).trans sB8)
        have fin : ∀ (tt : Addr) (ac : Act) (H9 : Hp), Own H B [t] B8 [(p, .lst (ps.map V.ref)), (t, tapeL a i5 r5 z5)] H9 → B8 tt = some (.tup ac.v) → Own H B [t] B8 [(p, .lst ((ps ++ [tt]).map V.ref)), (t, tapeL a i5 r5 z5)] (upd H9 p (.lst (ps.map V.ref ++ [.ref tt]))) ∧ ActsL B8 (ps ++ [tt]) ((as ++ [ac]).map Act.v) := fun tt ac H9 w11 hb => by
          refine ⟨?_, hA8.snoc hb⟩
          have w12 := w11.set 0 rfl (.lst (ps.map V.ref ++ [.ref tt]))
          rw [snocR] at w12 ⊢
          exact w12
        have hy : y = 0 ∨ y = 1 ∨ y = 2 := by omega
        rcases hy with e | e | e <;> subst e
        · refine rd_ixT (by walk_at "sq") rfl ?_
          refine rd_app (w10.mem (.head _)) (by rw [List.length_map]; omega) ?_
          obtain ⟨w11, hA9⟩ := fin t5 .lose _ w10 (sB8 _ _ (sB7 _ _ (sB6 _ _ hB5)))
          exact .a ⟨B8, _, _, _, _, _, _, _, _, _, _, w11, ⟨hi5, hr5, hz5⟩, hA9, by rw [List.length_append, List.length_singleton, hal], rfl⟩
        · refine rd_ixT (by walk_at "sq") rfl ?_
          refine rd_app (w10.mem (.head _)) (by rw [List.length_map]; omega) ?_
          obtain ⟨w11, hA9⟩ := fin t6 .double _ w10 (sB8 _ _ (sB7 _ _ hB6))
          exact .a ⟨B8, _, _, _, _, _, _, _, _, _, _, w11, ⟨hi5, hr5, hz5⟩, hA9, by rw [List.length_append, List.length_singleton, hal], rfl⟩
        · refine rd_ixT (by walk_at "sq") rfl ?_
          refine rd_app (w10.mem (.head _)) (by rw [List.length_map]; omega) ?_
          obtain ⟨w11, hA9⟩ := fin t7 .miss _ w10 (sB8 _ _ hB7)
          exact .a ⟨B8, _, _, _, _, _, _, _, _, _, _, w11, ⟨hi5, hr5, hz5⟩, hA9, by rw [List.length_append, List.length_singleton, hal], rfl⟩
      (repeat walk_at "rd")
      refine br_by (fun h4 => ?_) (fun h4 => ?_)
      · (repeat walk_at "rd")
        intro tt H6 n6 s6 e6
        refine rd_app ((w5.more s6).mem (.head _)) (by rw [List.length_map]; omega) ?_
        obtain ⟨B8, w8, hA8, sB8⟩ := more B3 _ _ _ _ _ tt .tell (Same.refl _) w5 n6 s6 e6
        exact .a ⟨B8, _, _, _, _, _, _, _, _, _, _, w8, ⟨hi4, hr4, hz4⟩, hA8, by rw [List.length_append, List.length_singleton, hal], rfl⟩
      (repeat walk_at "rd")
      intro tt H6 n6 s6 e6
      refine rd_app ((w5.more s6).mem (.head _)) (by rw [List.length_map]; omega) ?_
      obtain ⟨B8, w8, hA8, sB8⟩ := more B3 _ _ _ _ _ tt .hear (Same.refl _) w5 n6 s6 e6
      (repeat walk_at "rd")
      refine op_u_law_next ⟨t, a, ns, i4, r4, z4, 3, rfl, (by walk_at "hp"), w8.imm.seq (hS3 sB8), hi4, hr4, hz4, ⟨by omega, by omega⟩, fun y i5 r5 z5 hy0 hy1 hi5 hr5 hz5 => ?_⟩
      (repeat walk_at "rd")
      refine ⟨_, _, rfl, ?_⟩
      exact .a ⟨B8, _, _, _, _, _, _, _, _, _, _, w8.set 1 rfl (tapeL a i5 r5 z5), ⟨hi5, hr5, hz5⟩, hA8, by rw [List.length_append, List.length_singleton, hal], rfl⟩
    · obtain ⟨B3, ps, as, i3, r3, z3, base, foll, x6, x7, x8, w4, hT, hA, hal, rfl⟩ := w.un
      (repeat walk_at "rd")
      have hn : H p = none := (w4.own p _ (.head _)).elim (fun z => by
        have e := List.mem_singleton.mp z
        rw [e, c.cell t _ (.head _)] at n1
        cases n1) id
      obtain ⟨B4, sB, hB, w5⟩ := w4.ice hn
      exact q B4 H' p ps as i3 r3 z3 w5 hT hB (hA.mono sB) (by omega)
end
/-! no number is read wrongly in a safe window -/
structure SafeI (s : PlS) : Prop where
  hM : 2 * s.win ≤ 2 ^ s.bits.toNat
  hw : 1 ≤ s.win
  i1 : s.base ≤ s.low
  i2 : s.low ≤ s.next
  i3 : s.next ≤ s.base + s.win
  keys : ∀ k, hasK s.ahead k = true → k < s.next ∧ ∀ n ∈ s.air, k < n + s.win
  air : ∀ n ∈ s.air, n < s.base + s.win ∧ n < s.next ∧ s.low ≤ n + s.win
  ord : s.air.Pairwise (fun m n => m < n + s.win)
  back : ∀ v ∈ s.back, s.base ≤ v ∧ v ≤ s.low
  bord : s.back.Pairwise (· ≤ ·)
  wn : s.wn = []
  wl : s.wl = []
theorem distF_eq (bits base v : Int) : distF bits base v = (v - base) % 2 ^ bits.toNat := by
  unfold distF
  rw [Int.sub_emod, Int.emod_emod, ← Int.sub_emod]
theorem hasK_put {k : List (Key × V)} {r j : Int} {v : V} (h : hasK (putK k (.inl r) v) j = true) : j = r ∨ hasK k j = true := by
  unfold hasK at *
  rw [valV_put] at h
  by_cases e : (Sum.inl j : Key) = Sum.inl r
  · exact .inl (Sum.inl.inj e)
  · rw [if_neg e] at h
    exact .inr h
theorem hasK_drop {k : List (Key × V)} {r j : Int} (h : hasK (dropK k (.inl r)) j = true) : hasK k j = true := by
  unfold hasK at *
  rw [valV_drop] at h
  by_cases e : (Sum.inl j : Key) = Sum.inl r
  · rw [if_pos e] at h
    cases h
  · rw [if_neg e] at h
    exact h
theorem closeF_ok : ∀ (n : Nat) (k : List (Key × V)) (l : Int), l ≤ (closeF n k l).2 ∧ ((closeF n k l).2 = l ∨ hasK k ((closeF n k l).2 - 1) = true) ∧ ∀ j, hasK (closeF n k l).1 j = true → hasK k j = true := by
  intro n
  induction n with
  | zero => exact fun k l => ⟨Int.le_refl _, .inl rfl, fun j h => h⟩
  | succ n ih =>
    intro k l
    have e : closeF (n + 1) k l = if hasK k l = true then closeF n (dropK k (.inl l)) (l + 1) else (k, l) := rfl
    rw [e]
    by_cases h : hasK k l = true
    · rw [if_pos h]
      obtain ⟨h1, h2, h3⟩ := ih (dropK k (.inl l)) (l + 1)
      refine ⟨by omega, .inr ?_, fun j hj => hasK_drop (h3 j hj)⟩
      rcases h2 with h2 | h2
      · rw [h2]
        have e2 : l + 1 - 1 = l := by omega
        rw [e2]
        exact h
      · exact hasK_drop h2
    · rw [if_neg h]
      exact ⟨Int.le_refl _, .inl rfl, fun j h => h⟩
theorem SafeI.step {s : PlS} (h : SafeI s) (a : Act) : SafeI (s.step a) := by
  obtain ⟨bits, win, base, next, low, ahead, air, back, wn, wl⟩ := s
  obtain ⟨hM, hw, i1, i2, i3, keys, hair, ord, hback, bord, hwn, hwl⟩ := h
  dsimp only at *
  cases a with
  | send n =>
    show SafeI (PlS.sendS _ n)
    unfold PlS.sendS
    dsimp only
    by_cases c : n < base ∨ next < n ∨ base + win ≤ n
    · rw [if_pos c]
      exact ⟨hM, hw, i1, i2, i3, keys, hair, ord, hback, bord, hwn, hwl⟩
    · rw [if_neg c]
      have hn : base ≤ n ∧ n ≤ next ∧ n < base + win := by omega
      have hx : next ≤ (if n = next then next + 1 else next) ∧ n < (if n = next then next + 1 else next) ∧ (if n = next then next + 1 else next) ≤ base + win := by
        split <;> omega
      generalize (if n = next then next + 1 else next) = nx at hx
      refine ⟨hM, hw, i1, Int.le_trans i2 hx.1, hx.2.2, fun k hk => ?_, fun m hm => ?_, ?_, hback, bord, hwn, hwl⟩
      · obtain ⟨k1, k2⟩ := keys k hk
        refine ⟨Int.lt_of_lt_of_le k1 hx.1, fun m hm => ?_⟩
        rcases List.mem_append.mp hm with hm | hm
        · exact k2 m hm
        · rw [List.mem_singleton.mp hm]
          show k < n + win
          omega
      · show m < base + win ∧ m < nx ∧ low ≤ m + win
        rcases List.mem_append.mp hm with hm | hm
        · obtain ⟨a1, a2, a3⟩ := hair m hm
          omega
        · rw [List.mem_singleton.mp hm]
          omega
      · refine List.pairwise_append.mpr ⟨ord, List.pairwise_singleton _ _, fun m hm y hy => ?_⟩
        rw [List.mem_singleton.mp hy]
        have := (hair m hm).1
        show m < n + win
        omega
  | come =>
    show SafeI (PlS.comeS _)
    unfold PlS.comeS
    cases air with
    | nil => exact ⟨hM, hw, i1, i2, i3, keys, hair, ord, hback, bord, hwn, hwl⟩
    | cons n r =>
      dsimp only
      obtain ⟨a1, a2, a3⟩ := hair n List.mem_cons_self
      have hord := List.pairwise_cons.mp ord
      have hair' : ∀ m ∈ r, m < base + win ∧ m < next ∧ low ≤ m + win := fun m hm => hair m (List.mem_cons_of_mem _ hm)
      have keys' : ∀ k, hasK ahead k = true → k < next ∧ ∀ m ∈ r, k < m + win := fun k hk => ⟨(keys k hk).1, fun m hm => (keys k hk).2 m (List.mem_cons_of_mem _ hm)⟩
      rw [distF_eq]
      by_cases c : low ≤ n
      · have e : (n - low) % 2 ^ bits.toNat = n - low := Int.emod_eq_of_lt (by omega) (by omega)
        rw [e, if_neg (by omega)]
        have eg : (⟨bits, win, base, next, low, ahead, n :: r, back, wn, wl⟩ : PlS).gotS n r = ⟨bits, win, base, next, low, putK ahead (.inl n) (.bl true), r, back, wn, wl⟩ := by
          unfold PlS.gotS
          dsimp only
          rw [distF_eq, e, show low + (n - low) = n by omega, if_pos rfl]
        rw [eg]
        unfold PlS.closeS
        dsimp only
        obtain ⟨c1, c2, c3⟩ := closeF_ok (putK ahead (.inl n) (.bl true)).length (putK ahead (.inl n) (.bl true)) low
        generalize closeF (putK ahead (.inl n) (.bl true)).length (putK ahead (.inl n) (.bl true)) low = kl at c1 c2 c3
        have hk2 : ∀ j, hasK (putK ahead (.inl n) (.bl true)) j = true → j < next ∧ ∀ m ∈ r, j < m + win := fun j hj => by
          rcases hasK_put hj with e2 | e2
          · rw [e2]
            exact ⟨a2, fun m hm => hord.1 m hm⟩
          · exact keys' j e2
        refine ⟨hM, hw, Int.le_trans i1 c1, ?_, i3, fun k hk => hk2 k (c3 k hk), fun m hm => ?_, hord.2, fun v hv => ⟨(hback v hv).1, Int.le_trans (hback v hv).2 c1⟩, bord, hwn, hwl⟩
        · show kl.2 ≤ next
          rcases c2 with c2 | c2
          · omega
          · have := (hk2 _ c2).1
            omega
        · obtain ⟨b1, b2, b3⟩ := hair' m hm
          refine ⟨b1, b2, ?_⟩
          show kl.2 ≤ m + win
          rcases c2 with c2 | c2
          · omega
          · have := (hk2 _ c2).2 m hm
            omega
      · have e : (n - low) % 2 ^ bits.toNat = n - low + 2 ^ bits.toNat := by
          rw [← Int.add_emod_right]
          exact Int.emod_eq_of_lt (by omega) (by omega)
        rw [e, if_pos (by omega)]
        exact ⟨hM, hw, i1, i2, i3, keys', hair', hord.2, hback, bord, hwn, hwl⟩
  | lose =>
    refine ⟨hM, hw, i1, i2, i3, fun k hk => ⟨(keys k hk).1, fun m hm => (keys k hk).2 m (List.mem_of_mem_tail hm)⟩, fun m hm => hair m (List.mem_of_mem_tail hm), ?_, hback, bord, hwn, hwl⟩
    cases air with
    | nil => exact ord
    | cons x r => exact (List.pairwise_cons.mp ord).2
  | double =>
    cases air with
    | nil => exact ⟨hM, hw, i1, i2, i3, keys, hair, ord, hback, bord, hwn, hwl⟩
    | cons x r =>
      have hmem : ∀ m, m ∈ x :: x :: r → m ∈ x :: r := fun m hm => by
        rcases List.mem_cons.mp hm with e | e
        · rw [e]
          exact List.mem_cons_self
        · exact e
      refine ⟨hM, hw, i1, i2, i3, fun k hk => ⟨(keys k hk).1, fun m hm => (keys k hk).2 m (hmem m hm)⟩, fun m hm => hair m (hmem m hm), List.pairwise_cons.mpr ⟨fun m hm => ?_, ord⟩, hback, bord, hwn, hwl⟩
      show x < m + win
      rcases List.mem_cons.mp hm with e | e
      · omega
      · exact (List.pairwise_cons.mp ord).1 m e
  | tell =>
    refine ⟨hM, hw, i1, i2, i3, keys, hair, ord, fun v hv => ?_, List.pairwise_append.mpr ⟨bord, List.pairwise_singleton _ _, fun m hm y hy => ?_⟩, hwn, hwl⟩
    · rcases List.mem_append.mp hv with hv | hv
      · exact hback v hv
      · rw [List.mem_singleton.mp hv]
        exact ⟨i1, Int.le_refl _⟩
    · rw [List.mem_singleton.mp hy]
      exact (hback m hm).2
  | hear =>
    show SafeI (PlS.hearS _)
    unfold PlS.hearS
    cases back with
    | nil => exact ⟨hM, hw, i1, i2, i3, keys, hair, ord, hback, bord, hwn, hwl⟩
    | cons v r =>
      dsimp only
      obtain ⟨b1, b2⟩ := hback v List.mem_cons_self
      have hb := List.pairwise_cons.mp bord
      have e : (v - base) % 2 ^ bits.toNat = v - base := Int.emod_eq_of_lt (by omega) (by omega)
      rw [distF_eq, e, show base + (v - base) = v by omega, if_neg (by omega), if_pos rfl]
      refine ⟨hM, hw, b2, i2, by dsimp only; omega, keys, fun m hm => ?_, ord, fun u hu => ⟨hb.1 u hu, (hback u (List.mem_cons_of_mem _ hu)).2⟩, hb.2, hwn, hwl⟩
      obtain ⟨c1, c2, c3⟩ := hair m hm
      refine ⟨?_, c2, c3⟩
      show m < v + win
      omega
  | miss =>
    refine ⟨hM, hw, i1, i2, i3, keys, hair, ord, fun v hv => hback v (List.mem_of_mem_tail hv), ?_, hwn, hwl⟩
    cases back with
    | nil => exact bord
    | cons x r => exact (List.pairwise_cons.mp bord).2
theorem safe_run {bits win : Int} (hw : 1 ≤ win) (hM : 2 * win ≤ 2 ^ bits.toNat) (as : List Act) : (as.foldl PlS.step (initS bits win)).wn = [] ∧ (as.foldl PlS.step (initS bits win)).wl = [] := by
  have key : ∀ (as : List Act) (s : PlS), SafeI s → SafeI (as.foldl PlS.step s) := by
    intro as
    induction as with
    | nil => exact fun s h => h
    | cons a r ih => exact fun s h => ih _ (h.step a)
  have h0 : SafeI (initS bits win) := ⟨hM, hw, Int.le_refl _, Int.le_refl _, by show (0 : Int) ≤ 0 + win; omega, fun k hk => (by cases hk), fun n hn => (nomatch hn), List.Pairwise.nil, fun v hv => (nomatch hv), List.Pairwise.nil, rfl, rfl⟩
  have h := key as _ h0
  exact ⟨h.wn, h.wl⟩
def foolActs (w : Int) : List Act := (List.range w.toNat).map (fun i => Act.send (i : Nat)) ++ List.replicate w.toNat .come ++ [.send 0, .come]
theorem foolActs_v (w : Int) : (foolActs w).map Act.v = foolA w := by
  unfold foolActs foolA
  rw [List.map_append, List.map_append, List.map_map, List.map_replicate]
  rfl
theorem fool_run {bits m : Int} (h : (bits = 3 ∧ m = 4) ∨ (bits = 4 ∧ m = 8) ∨ (bits = 5 ∧ m = 16) ∨ (bits = 6 ∧ m = 32)) : ((foolActs (m + 1)).foldl PlS.step (initS bits (m + 1))).wn = [(0, 2 * m)] ∧ ((foolActs (m + 1)).foldl PlS.step (initS bits (m + 1))).wl = [] := by
  rcases h with ⟨rfl, rfl⟩ | ⟨rfl, rfl⟩ | ⟨rfl, rfl⟩ | ⟨rfl, rfl⟩ <;> exact ⟨by decide +kernel, by decide +kernel⟩
section
variable {P : Program} {w : World} {K : PySem.W.Frag} {mg : Str → Option Value} {base : Heap}
end
/-! acts as data -/
def Act.d : Act → PyData
  | .send n => .tuple [.str "send", .int n]
  | .come => .tuple [.str "come"]
  | .lose => .tuple [.str "lose"]
  | .double => .tuple [.str "double"]
  | .tell => .tuple [.str "tell"]
  | .hear => .tuple [.str "hear"]
  | .miss => .tuple [.str "miss"]
theorem act_sh (a : Act) : Sh 1 a.d := by
  cases a with
  | send n => exact sh_tup (sh_cons (sh_str (by decide +kernel)) (sh_cons sh_int sh_nil))
  | come => exact sh_tup (sh_cons (sh_str (by decide +kernel)) sh_nil)
  | lose => exact sh_tup (sh_cons (sh_str (by decide +kernel)) sh_nil)
  | double => exact sh_tup (sh_cons (sh_str (by decide +kernel)) sh_nil)
  | tell => exact sh_tup (sh_cons (sh_str (by decide +kernel)) sh_nil)
  | hear => exact sh_tup (sh_cons (sh_str (by decide +kernel)) sh_nil)
  | miss => exact sh_tup (sh_cons (sh_str (by decide +kernel)) sh_nil)
theorem act_dp {K : PySem.W.Frag} {H : Hp} {p : Addr} {a : Act} (h : H p = some (.tup a.v)) : Dp K H (.ref p) a.d := by
  cases a with
  | send n => exact .tup (st_of h) (.cons (.str _) (.cons (.int _) .nil))
  | come => exact .tup (st_of h) (.cons (.str _) .nil)
  | lose => exact .tup (st_of h) (.cons (.str _) .nil)
  | double => exact .tup (st_of h) (.cons (.str _) .nil)
  | tell => exact .tup (st_of h) (.cons (.str _) .nil)
  | hear => exact .tup (st_of h) (.cons (.str _) .nil)
  | miss => exact .tup (st_of h) (.cons (.str _) .nil)
theorem acts_dp {K : PySem.W.Frag} {H : Hp} : ∀ {ps : List Addr} {as : List Act}, ActsL H ps (as.map Act.v) → DpAll K H (ps.map V.ref) (as.map Act.d)
  | [], [], _ => .nil
  | p :: ps, a :: as, .cons h t => .cons (act_dp h) (acts_dp t)
theorem prs_dp {K : PySem.W.Frag} {B : Hp} {ps : List Addr} {r : List (Int × Int)} (h : PrsAt B ps r) : DpAll K B (ps.map V.ref) (r.map fun x => .tuple [.int x.1, .int x.2]) := by
  induction h with
  | nil => exact .nil
  | cons h _ ih => exact .cons (.tup (st_of h) (.cons (.int _) (.cons (.int _) .nil))) ih
mutual
theorem dp_mono {K : PySem.W.Frag} {H H' : Hp} (s : Same H H') : ∀ {v : V} {d : PyData}, Dp K H v d → Dp K H' v d
  | _, _, .non => .non
  | _, _, .bl b => .bl b
  | _, _, .int i => .int i
  | _, _, .str x => .str x
  | _, _, .lst h k => .lst (s.seq h) (dpa_mono s k)
  | _, _, .tup h k => .tup (Same.sqt s h) (dpa_mono s k)
theorem dpa_mono {K : PySem.W.Frag} {H H' : Hp} (s : Same H H') : ∀ {vs : List V} {ds : List PyData}, DpAll K H vs ds → DpAll K H' vs ds
  | _, _, .nil => .nil
  | _, _, .cons h k => .cons (dp_mono s h) (dpa_mono s k)
end
section
variable {P : Program} {w : World} {K : PySem.W.Frag} {mg : Str → Option Value} {base : Heap}
def sp_law (K : PySem.W.Frag) : Sp := fun vs H Q _ => ∃ (a : Addr) (ns : List Int), vs = [.ref a] ∧ SqL K H a (ns.map V.int) ∧ ns.length ≤ 63 ∧ ∀ H', Q (.bl true) H'
@[irreducible] def ip_law (K : PySem.W.Frag) : Sp := sp_law K
theorem op_law {K : PySem.W.Frag} {vs : List V} {H : Hp} {Q : VK} {E : XK} (h : sp_law K vs H Q E) : ip_law K vs H Q E := by
  unfold ip_law
  exact h
theorem un_law {K : PySem.W.Frag} {vs : List V} {H : Hp} {Q : VK} {E : XK} (h : ip_law K vs H Q E) : sp_law K vs H Q E := by
  unfold ip_law at h
  exact h
theorem ok_law (T : Tx P w K mg base) : FnOk P w K mg base CX0 5 T.a_law T.d_law ["script"] (ip_law K) := by
  have G_window_size := ok_window_size T
  have G_u_law_acts := ok_u_law_acts T
  have G_play_numbers := ok_play_numbers T
  have G_u_law_next := ok_u_law_next T
  have G_fooling := ok_fooling T
  have G_u_law_fooled := ok_u_law_fooled T
  refine T.p_law.F.ok sc_law (fun vs H Q E h => ?_) (fun cdv A outer s H vs Q E hr h => ?_)
  · obtain ⟨a, ns, rfl, hS, hlen, q⟩ := un_law h
    rfl
  · obtain ⟨a, ns, rfl, hS, hlen, q⟩ := un_law h
    refine ⟨_, (pss_cons (ps_set (i := 1) sc_law.nd rfl (Or.inl rfl) (pe_lstM (pa_cons (pe_callTy call_listM (by rfl) T.n_list (by decide +kernel) (pa_cons (pv 0) pa_nil)) (pa_cons pe_int (pa_cons pe_int (pa_cons pe_int pa_nil)))))) (pss_cons (ps_set (i := 2) sc_law.nd rfl (Or.inl rfl) (pe_op op_addM pe_int (pe_call G_u_law_next (hr.mono (by decide)) rfl T.p_u_law_next.m T.p_u_law_next.F.kp T.p_u_law_next.b .nil pass0 (pa_cons (pv 1) (pa_cons pe_int pa_nil))))) (pss_cons (ps_set (i := 3) sc_law.nd rfl (Or.inl rfl) (pe_call G_window_size (hr.mono (by decide)) rfl T.p_window_size.m T.p_window_size.F.kp T.p_window_size.b .nil pass0 (pa_cons (pv 2) pa_nil))) (pss_cons (ps_ifM (PW.pt (pw_orM (pt_val (pe_callB call_isiM (by rfl) T.n_isinstance (by decide +kernel) (pa_cons (pv 3) (pa_cons (pe_bltn (v := .ty "bool") rfl T.n_bool (by decide +kernel) rfl) pa_nil)))) (pw_or1 (pt_cmpR op_ne (pv 3) (pe_ix ix_tupM (pe_tupM (pa_cons pe_int (pa_cons pe_int (pa_cons pe_int (pa_cons pe_int pa_nil))))) (pe_op op_subM (pv 2) pe_int) (fun _ _ => rfl)) (nomark _))))) (pss_one (ps_ret pe_bl)) pss_nil) (pss_cons (ps_set (i := 4) sc_law.nd rfl (Or.inl rfl) (pe_ix ix_tupM (pe_tupM (pa_cons (pv 3) (pa_cons (pv 3) (pa_cons (pe_op op_addM pe_int (pe_call G_u_law_next (hr.mono (by decide)) rfl T.p_u_law_next.m T.p_u_law_next.F.kp T.p_u_law_next.b .nil pass0 (pa_cons (pv 1) (pa_cons (pv 3) pa_nil)))) pa_nil)))) (pe_call G_u_law_next (hr.mono (by decide)) rfl T.p_u_law_next.m T.p_u_law_next.F.kp T.p_u_law_next.b .nil pass0 (pa_cons (pv 1) (pa_cons pe_int pa_nil))) (fun _ _ => rfl))) (pss_cons (ps_set (i := 5) sc_law.nd rfl (Or.inl rfl) (pe_call G_u_law_acts (hr.mono (by decide)) rfl T.p_u_law_acts.m T.p_u_law_acts.F.kp T.p_u_law_acts.b .nil pass0 (pa_cons (pv 1) (pa_cons (pv 2) (pa_cons (pv 4) pa_nil))))) (pss_cons (ps_set (i := 6) sc_law.nd rfl (Or.inl rfl) (pe_callTy call_listM (by rfl) T.n_list (by decide +kernel) (pa_cons (pv 5) pa_nil))) (pss_cons (ps_set (i := 7) sc_law.nd rfl (Or.inl rfl) (pe_call G_play_numbers (hr.mono (by decide)) rfl T.p_play_numbers.m T.p_play_numbers.F.kp T.p_play_numbers.b .nil pass0 (pa_cons (pv 2) (pa_cons (pv 4) (pa_cons (pv 5) pa_nil))))) (pss_cons (ps_ifM (PW.pt (pw_orM (pt_not (pt_val (pe_callB call_isiM (by rfl) T.n_isinstance (by decide +kernel) (pa_cons (pv 7) (pa_cons (pe_bltn (v := .ty "tuple") rfl T.n_tuple (by decide +kernel) rfl) pa_nil))))) (pw_orM (pt_cmpR (op_neDM hr.units) (pv 7) (pe_tupM (pa_cons (pe_lstM pa_nil) (pa_cons (pe_lstM pa_nil) pa_nil))) (nomark _)) (pw_or1 (pt_cmpR (op_neDM hr.units) (pv 5) (pv 6) (nomark _)))))) (pss_one (ps_ret pe_bl)) pss_nil) (pss_cons (ps_ifM (pt_cmpR (op_neDM hr.units) (pe_call G_play_numbers (hr.mono (by decide)) rfl T.p_play_numbers.m T.p_play_numbers.F.kp T.p_play_numbers.b .nil pass0 (pa_cons (pv 2) (pa_cons (pe_op op_addM (pv 3) pe_int) (pa_cons (pe_call G_fooling (hr.mono (by decide)) rfl T.p_fooling.m T.p_fooling.F.kp T.p_fooling.b .nil pass0 (pa_cons (pv 2) pa_nil)) pa_nil)))) (pe_tupM (pa_cons (pe_call G_u_law_fooled (hr.mono (by decide)) rfl T.p_u_law_fooled.m T.p_u_law_fooled.F.kp T.p_u_law_fooled.b .nil pass0 (pa_cons (pv 2) pa_nil)) (pa_cons (pe_lstM pa_nil) pa_nil))) (nomark _)) (pss_one (ps_ret pe_bl)) pss_nil) (pss_one (ps_ret (pe_andM (pe_cmpR (op_neDM hr.units) (pe_call G_u_law_fooled (hr.mono (by decide)) rfl T.p_u_law_fooled.m T.p_u_law_fooled.F.kp T.p_u_law_fooled.b .nil pass0 (pa_cons (pv 2) pa_nil)) (pe_lstM pa_nil) (nomark _)) (pe_one (pe_cmpR (op_eqDM hr.units) (pe_call G_play_numbers (hr.mono (by decide)) rfl T.p_play_numbers.m T.p_play_numbers.F.kp T.p_play_numbers.b .nil pass0 (pa_cons (pv 2) (pa_cons (pv 3) (pa_cons (pe_call G_fooling (hr.mono (by decide)) rfl T.p_fooling.m T.p_fooling.F.kp T.p_fooling.b .nil pass0 (pa_cons (pv 2) pa_nil)) pa_nil)))) (pe_tupM (pa_cons (pe_lstM pa_nil) (pa_cons (pe_lstM pa_nil) pa_nil))) (nomark _)))))))))))))))), ?_⟩
    (repeat walk_at "rd")
    refine rd_list (by walk_at "sq") ?_
    intro a2 H1 n1 s1 e1
    (repeat walk_at "rd")
    intro t H2 n2 s2 e2
    (repeat walk_at "rd")
    have e2' : H2 t = some (tapeL a2 0 0 5) := e2
    have hS2 : SqL K H1 a2 (ns.map V.int) := sq_of e1
    have w2 : Own H1 H1 [] H1 [(t, tapeL a2 0 0 5)] H2 := Own.mk0.add n2 s2 e2
    refine op_u_law_next ⟨t, a2, ns, 0, 0, 5, 4, rfl, (by walk_at "hp"), (by walk_at "sq"), ⟨by omega, by omega⟩, by omega, ⟨by omega, by omega⟩, ⟨by omega, by omega⟩, fun x i1 r1 z1 hx0 hx1 hi1 hr1 hz1 => ?_⟩
    have w3 : Own H1 H1 [] H1 [(t, tapeL a2 i1 r1 z1)] _ := w2.set 0 rfl (tapeL a2 i1 r1 z1)
    have hx : ∃ bits m : Int, 3 + x = bits ∧ ((bits = 3 ∧ m = 4) ∨ (bits = 4 ∧ m = 8) ∨ (bits = 5 ∧ m = 16) ∨ (bits = 6 ∧ m = 32)) ∧ 2 ^ (bits - 1).toNat = m ∧ 2 ^ bits.toNat = 2 * m ∧ atI [V.int 4, V.int 8, V.int 16, V.int 32] (bits - 3) = some (V.int m) := by
      have h : x = 0 ∨ x = 1 ∨ x = 2 ∨ x = 3 := by omega
      rcases h with e | e | e | e <;> subst e
      · exact ⟨3, 4, rfl, by omega, rfl, rfl, rfl⟩
      · exact ⟨4, 8, rfl, by omega, rfl, rfl, rfl⟩
      · exact ⟨5, 16, rfl, by omega, rfl, rfl, rfl⟩
      · exact ⟨6, 32, rfl, by omega, rfl, rfl, rfl⟩
    obtain ⟨bits, m, eb, hbm, hp1, hp2, hat⟩ := hx
    (repeat walk_at "rd")
    rw [eb]
    refine op_window_size ⟨bits, rfl, by omega, by omega, ?_⟩
    rw [hp1]
    (repeat walk_at "rd")
    intro t3 H3 n3 s3 e3
    have w4 := w3.more s3
    (repeat walk_at "rd")
    refine rd_ixT (st_of e3) hat ?_
    (repeat walk_at "rd")
    refine br_ni rfl ?_
    (repeat walk_at "rd")
    refine op_u_law_next ⟨t, a2, ns, i1, r1, z1, m, rfl, (by walk_at "hp"), w4.imm.seq hS2, hi1, hr1, hz1, ⟨by omega, by omega⟩, fun x2 i2 r2 z2 hx20 hx21 hi2 hr2 hz2 => ?_⟩
    have w5 : Own H1 H1 [] H1 [(t, tapeL a2 i2 r2 z2)] _ := w4.set 0 rfl (tapeL a2 i2 r2 z2)
    (repeat walk_at "rd")
    intro t4 H4 n4 s4 e4
    obtain ⟨B4, sB4, hB4, _, w6⟩ := w5.ro n4 s4 e4
    (repeat walk_at "rd")
    refine op_u_law_next ⟨t, a2, ns, i2, r2, z2, 3, rfl, (by walk_at "hp"), w6.imm.seq (sB4.seq hS2), hi2, hr2, hz2, ⟨by omega, by omega⟩, fun x3 i3 r3 z3 hx30 hx31 hi3 hr3 hz3 => ?_⟩
    have w7 : Own H1 H1 [] B4 [(t, tapeL a2 i3 r3 z3)] _ := w6.set 0 rfl (tapeL a2 i3 r3 z3)
    have hw : ∃ win : Int, atI [V.int m, V.int m, V.int (1 + x2)] x3 = some (.int win) ∧ 1 ≤ win ∧ win ≤ m := by
      have h : x3 = 0 ∨ x3 = 1 ∨ x3 = 2 := by omega
      rcases h with e | e | e <;> subst e
      · exact ⟨m, rfl, by omega, by omega⟩
      · exact ⟨m, rfl, by omega, by omega⟩
      · exact ⟨1 + x2, rfl, by omega, by omega⟩
    obtain ⟨win, hwat, hw0, hw1⟩ := hw
    refine rd_ixT (by walk_at "sq") hwat ?_
    (repeat walk_at "rd")
    refine op_u_law_acts ⟨t, a2, ns, i3, r3, z3, bits, win, B4, rfl, w7.c, sB4.seq hS2, hi3, hr3, hz3, ⟨hw0, by omega⟩, fun B5 H5 p ps as i4 r4 z4 w8' hT hB5 hA hal => ?_⟩
    have w8 : Own H1 H1 [] B5 [(t, tapeL a2 i4 r4 z4)] H5 := w7.call0 w8'
    have sB5 : Same B5 H5 := w8.imm
    clear w8' w7 w6 w5 w4 w3 w2 w8
    (repeat walk_at "rd")
    refine rd_list (by walk_at "sq") ?_
    intro k6 H6 n6 s6 e6
    (repeat walk_at "rd")
    have s56 : Same B5 H6 := sB5.trans s6
    refine op_play_numbers ⟨bits, win, p, ps, as, rfl, sq_of (s56 _ _ hB5), hA.mono s56, by omega, by omega, fun t7 x7 y7 B7 H7 pn pl s7 sB7 n7 e7 ex ey hpn hpl => ?_⟩
    obtain ⟨hr1', hr2'⟩ := safe_run (bits := bits) hw0 (by rw [hp2]; omega) as
    have ex' : B7 x7 = some (.lst []) := by
      unfold runS at hpn
      rw [hr1'] at hpn
      cases hpn
      exact ex
    have ey' : B7 y7 = some (.lst []) := by
      unfold runS at hpl
      rw [hr2'] at hpl
      cases hpl
      exact ey
    clear hpn hpl ex ey
    (repeat walk_at "rd")
    refine rd_isiTT (sB7 _ _ e7) ?_
    (repeat walk_at "rd")
    intro l8 H8 n8 s8 e8
    (repeat walk_at "rd")
    intro l9 H9 n9 s9 e9
    (repeat walk_at "rd")
    intro t10 H10 n10 s10 e10
    have s710 : Same H7 H10 := (s8.trans s9).trans s10
    have sB710 : Same B7 H10 := sB7.trans s710
    have e8' : H10 l8 = some (.lst []) := s10 _ _ (s9 _ _ e8)
    have e9' : H10 l9 = some (.lst []) := s10 _ _ e9
    have shE : Sh 2 (.tuple [.list [], .list []]) := sh_tup (sh_cons (sh_lst sh_nil) (sh_cons (sh_lst sh_nil) sh_nil))
    refine rd_neS (n := 2) (.tuple [.list [], .list []]) (.tup (st_of (sB710 _ _ e7)) (.cons (.lst (sq_of (sB710 _ _ ex')) .nil) (.cons (.lst (sq_of (sB710 _ _ ey')) .nil) .nil))) (.tup (st_of e10) (.cons (.lst (sq_of e8') .nil) (.cons (.lst (sq_of e9') .nil) .nil))) shE ?_
    (repeat walk_at "rd")
    have s610 : Same H6 H10 := s7.trans s710
    refine rd_neS (n := 2) (.list (as.map Act.d)) (.lst (sq_of (s610 _ _ (s56 _ _ hB5))) (acts_dp (hA.mono (s56.trans s610)))) (.lst (sq_of (s610 _ _ e6)) (acts_dp (hA.mono (s56.trans s610)))) (sh_lst (sh_map (fun x => act_sh x) as)) ?_
    (repeat walk_at "rd")
    refine op_fooling ⟨bits, m + 1, rfl, by omega, by rw [hp1], by omega, fun p11 H11 ps11 n11 s11 e11 hA11 => ?_⟩
    rw [← foolActs_v] at hA11
    have hfl : (foolActs (m + 1)).length ≤ 1000 := by
      unfold foolActs
      rw [List.length_append, List.length_append, List.length_map, List.length_range, List.length_replicate]
      show _ + 2 ≤ _
      omega
    (repeat walk_at "rd")
    refine op_play_numbers ⟨bits, m + 1, p11, ps11, foolActs (m + 1), rfl, sq_of e11, hA11, by omega, hfl, fun t12 x12 y12 B12 H12 pn pl s12 sB12 n12 e12 ex ey hpn hpl => ?_⟩
    obtain ⟨hf1, hf2⟩ := fool_run hbm
    unfold runS at hpn hpl
    rw [hf1] at hpn
    rw [hf2] at hpl
    have hpl0 : pl = [] := by
      cases hpl
      rfl
    subst hpl0
    (repeat walk_at "rd")
    refine op_u_law_fooled ⟨bits, rfl, by omega, fun p13 t13 H13 n13 s13 e13 e13' => ?_⟩
    rw [hp2] at e13'
    (repeat walk_at "rd")
    intro l14 H14 n14 s14 e14
    (repeat walk_at "rd")
    intro t15 H15 n15 s15 e15
    have sB15 : Same B12 H15 := ((sB12.trans s13).trans s14).trans s15
    have shF : Sh 3 (.tuple [.list [.tuple [.int 0, .int (2 * m)]], .list []]) := sh_tup (sh_cons (sh_lst (sh_cons (sh_tup (sh_cons sh_int (sh_cons sh_int sh_nil))) sh_nil)) (sh_cons (sh_lst sh_nil) sh_nil))
    refine rd_neS (n := 3) (.tuple [.list [.tuple [.int 0, .int (2 * m)]], .list []]) (.tup (st_of (sB15 _ _ e12)) (.cons (.lst (sq_of (sB15 _ _ ex)) (dpa_mono sB15 (prs_dp hpn))) (.cons (.lst (sq_of (sB15 _ _ ey)) .nil) .nil)))
      (.tup (st_of e15) (.cons (.lst (sq_of (s15 _ _ (s14 _ _ e13))) (.cons (.tup (st_of (s15 _ _ (s14 _ _ e13'))) (.cons (.int _) (.cons (.int _) .nil))) .nil)) (.cons (.lst (sq_of (s15 _ _ e14)) .nil) .nil))) shF ?_
    (repeat walk_at "rd")
    refine op_u_law_fooled ⟨bits, rfl, by omega, fun p16 t16 H16 n16 s16 e16 e16' => ?_⟩
    rw [hp2] at e16'
    (repeat walk_at "rd")
    intro l17 H17 n17 s17 e17
    refine rd_neA (n := 2) (m := 1) (.list [.tuple [.int 0, .int (2 * m)]]) (.list []) (.lst (sq_of (s17 _ _ e16)) (.cons (.tup (st_of (s17 _ _ e16')) (.cons (.int _) (.cons (.int _) .nil))) .nil)) (.lst (sq_of e17) .nil) (sh_lst (sh_cons (sh_tup (sh_cons sh_int (sh_cons sh_int sh_nil))) sh_nil)) (sh_lst sh_nil) ?_
    have ev : PyData.eqv (.list [.tuple [.int 0, .int (2 * m)]]) (.list []) = false := by
      rw [PyData.eqv]
      rfl
    rw [ev]
    (repeat walk_at "rd")
    refine op_fooling ⟨bits, m + 1, rfl, by omega, by rw [hp1], by omega, fun p18 H18 ps18 n18 s18 e18 hA18 => ?_⟩
    rw [← foolActs_v] at hA18
    (repeat walk_at "rd")
    refine op_play_numbers ⟨bits, m, p18, ps18, foolActs (m + 1), rfl, sq_of e18, hA18, by omega, hfl, fun t19 x19 y19 B19 H19 pn pl s19 sB19 n19 e19 ex ey hpn hpl => ?_⟩
    obtain ⟨hg1, hg2⟩ := safe_run (bits := bits) (win := m) (by omega) (by rw [hp2]; omega) (foolActs (m + 1))
    unfold runS at hpn hpl
    rw [hg1] at hpn
    rw [hg2] at hpl
    have h1 : pn = [] := by
      cases hpn
      rfl
    have h2 : pl = [] := by
      cases hpl
      rfl
    subst h1
    subst h2
    (repeat walk_at "rd")
    intro l20 H20 n20 s20 e20
    (repeat walk_at "rd")
    intro l21 H21 n21 s21 e21
    (repeat walk_at "rd")
    intro t22 H22 n22 s22 e22
    have sB22 : Same B19 H22 := ((sB19.trans s20).trans s21).trans s22
    refine rd_eqS (n := 2) (.tuple [.list [], .list []]) (.tup (st_of (sB22 _ _ e19)) (.cons (.lst (sq_of (sB22 _ _ ex)) .nil) (.cons (.lst (sq_of (sB22 _ _ ey)) .nil) .nil))) (.tup (st_of e22) (.cons (.lst (sq_of (s22 _ _ (s21 _ _ e20))) .nil) (.cons (.lst (sq_of (s22 _ _ e21)) .nil) .nil))) shE ?_
    exact q _
end
end My
namespace My
open PySem L2
theorem all_mk {P : Program} {w : World} {K : PySem.W.Frag} {h : Heap} {mg : Str → Option Value} {fa : Addr} (X : K.In h) (G : h.Ns mainGlobals mg) (hfa : mg "law" = some (.ref fa))
    {C_NumberPlay : Addr}
    {f_window_size : Addr} {od_window_size an_window_size : Option Addr} {sl_window_size : Array (Option Value)} {oc_window_size kV_window_size dc_window_size pm_window_size cd_window_size ct_window_size : Value}
    {f_short : Addr} {od_short an_short : Option Addr} {sl_short : Array (Option Value)} {oc_short kV_short dc_short pm_short cd_short ct_short : Value}
    {f_distance : Addr} {od_distance an_distance : Option Addr} {sl_distance : Array (Option Value)} {oc_distance kV_distance dc_distance pm_distance cd_distance ct_distance : Value}
    {f_NumberPlay___init__ : Addr} {od_NumberPlay___init__ an_NumberPlay___init__ : Option Addr} {sl_NumberPlay___init__ : Array (Option Value)} {oc_NumberPlay___init__ kV_NumberPlay___init__ dc_NumberPlay___init__ pm_NumberPlay___init__ cd_NumberPlay___init__ ct_NumberPlay___init__ : Value}
    {f_NumberPlay_send : Addr} {od_NumberPlay_send an_NumberPlay_send : Option Addr} {sl_NumberPlay_send : Array (Option Value)} {oc_NumberPlay_send kV_NumberPlay_send dc_NumberPlay_send pm_NumberPlay_send cd_NumberPlay_send ct_NumberPlay_send : Value}
    {f_NumberPlay_come : Addr} {od_NumberPlay_come an_NumberPlay_come : Option Addr} {sl_NumberPlay_come : Array (Option Value)} {oc_NumberPlay_come kV_NumberPlay_come dc_NumberPlay_come pm_NumberPlay_come cd_NumberPlay_come ct_NumberPlay_come : Value}
    {f_NumberPlay_hear : Addr} {od_NumberPlay_hear an_NumberPlay_hear : Option Addr} {sl_NumberPlay_hear : Array (Option Value)} {oc_NumberPlay_hear kV_NumberPlay_hear dc_NumberPlay_hear pm_NumberPlay_hear cd_NumberPlay_hear ct_NumberPlay_hear : Value}
    {f_NumberPlay_act : Addr} {od_NumberPlay_act an_NumberPlay_act : Option Addr} {sl_NumberPlay_act : Array (Option Value)} {oc_NumberPlay_act kV_NumberPlay_act dc_NumberPlay_act pm_NumberPlay_act cd_NumberPlay_act ct_NumberPlay_act : Value}
    {f_play_numbers : Addr} {od_play_numbers an_play_numbers : Option Addr} {sl_play_numbers : Array (Option Value)} {oc_play_numbers kV_play_numbers dc_play_numbers pm_play_numbers cd_play_numbers ct_play_numbers : Value}
    {f_fooling : Addr} {od_fooling an_fooling : Option Addr} {sl_fooling : Array (Option Value)} {oc_fooling kV_fooling dc_fooling pm_fooling cd_fooling ct_fooling : Value}
    {f_u_law_next : Addr} {od_u_law_next an_u_law_next : Option Addr} {sl_u_law_next : Array (Option Value)} {oc_u_law_next kV_u_law_next dc_u_law_next pm_u_law_next cd_u_law_next ct_u_law_next : Value}
    {f_u_law_acts : Addr} {od_u_law_acts an_u_law_acts : Option Addr} {sl_u_law_acts : Array (Option Value)} {oc_u_law_acts kV_u_law_acts dc_u_law_acts pm_u_law_acts cd_u_law_acts ct_u_law_acts : Value}
    {f_u_law_fooled : Addr} {od_u_law_fooled an_u_law_fooled : Option Addr} {sl_u_law_fooled : Array (Option Value)} {oc_u_law_fooled kV_u_law_fooled dc_u_law_fooled pm_u_law_fooled cd_u_law_fooled ct_u_law_fooled : Value}
    {f_law : Addr} {od_law an_law : Option Addr} {sl_law : Array (Option Value)} {oc_law kV_law dc_law pm_law cd_law ct_law : Value}
    (z_len : PySem.W.nsIn K mainGlobals "len" = some none)
    (z_range : PySem.W.nsIn K mainGlobals "range" = some none)
    (z_abs : PySem.W.nsIn K mainGlobals "abs" = some none)
    (z_int : PySem.W.nsIn K mainGlobals "int" = some none)
    (z_min : PySem.W.nsIn K mainGlobals "min" = some none)
    (z_isinstance : PySem.W.nsIn K mainGlobals "isinstance" = some none)
    (z_list : PySem.W.nsIn K mainGlobals "list" = some none)
    (z_tuple : PySem.W.nsIn K mainGlobals "tuple" = some none)
    (z_bool : PySem.W.nsIn K mainGlobals "bool" = some none)
    (z_NumberPlay : PySem.W.nsIn K mainGlobals "NumberPlay" = some (some (.ref C_NumberPlay)))
    (a_window_size : PySem.W.nsIn K mainGlobals "window_size" = some (some (.ref f_window_size)))
    (l_window_size : K.lookup f_window_size = some ⟨oc_window_size, od_window_size, .func (PySem.W.fnOf "window_size" "window_size" (defArgs S_window_size) (defBody S_window_size) (defScope S_window_size) .none kV_window_size dc_window_size pm_window_size an_window_size cd_window_size ct_window_size), sl_window_size⟩)
    (c_window_size : PySem.W.codeIn K cd_window_size "window_size" = true)
    (k_window_size : PySem.W.keepIn K (.ref f_window_size) = true)
    (a_short : PySem.W.nsIn K mainGlobals "short" = some (some (.ref f_short)))
    (l_short : K.lookup f_short = some ⟨oc_short, od_short, .func (PySem.W.fnOf "short" "short" (defArgs S_short) (defBody S_short) (defScope S_short) .none kV_short dc_short pm_short an_short cd_short ct_short), sl_short⟩)
    (c_short : PySem.W.codeIn K cd_short "short" = true)
    (k_short : PySem.W.keepIn K (.ref f_short) = true)
    (a_distance : PySem.W.nsIn K mainGlobals "distance" = some (some (.ref f_distance)))
    (l_distance : K.lookup f_distance = some ⟨oc_distance, od_distance, .func (PySem.W.fnOf "distance" "distance" (defArgs S_distance) (defBody S_distance) (defScope S_distance) .none kV_distance dc_distance pm_distance an_distance cd_distance ct_distance), sl_distance⟩)
    (c_distance : PySem.W.codeIn K cd_distance "distance" = true)
    (k_distance : PySem.W.keepIn K (.ref f_distance) = true)
    (a_NumberPlay___init__ : PySem.W.findIn K (.ref C_NumberPlay) "__init__" = some (some (.ref f_NumberPlay___init__)))
    (i_NumberPlay___init__ : PySem.W.isFn K (.ref f_NumberPlay___init__) = true)
    (l_NumberPlay___init__ : K.lookup f_NumberPlay___init__ = some ⟨oc_NumberPlay___init__, od_NumberPlay___init__, .func (PySem.W.fnOf "__init__" "NumberPlay.__init__" (defArgs S_NumberPlay___init__) (defBody S_NumberPlay___init__) (defScope S_NumberPlay___init__) .none kV_NumberPlay___init__ dc_NumberPlay___init__ pm_NumberPlay___init__ an_NumberPlay___init__ cd_NumberPlay___init__ ct_NumberPlay___init__), sl_NumberPlay___init__⟩)
    (c_NumberPlay___init__ : PySem.W.codeIn K cd_NumberPlay___init__ "NumberPlay.__init__" = true)
    (k_NumberPlay___init__ : PySem.W.keepIn K (.ref f_NumberPlay___init__) = true)
    (a_NumberPlay_send : PySem.W.findIn K (.ref C_NumberPlay) "send" = some (some (.ref f_NumberPlay_send)))
    (i_NumberPlay_send : PySem.W.isFn K (.ref f_NumberPlay_send) = true)
    (l_NumberPlay_send : K.lookup f_NumberPlay_send = some ⟨oc_NumberPlay_send, od_NumberPlay_send, .func (PySem.W.fnOf "send" "NumberPlay.send" (defArgs S_NumberPlay_send) (defBody S_NumberPlay_send) (defScope S_NumberPlay_send) .none kV_NumberPlay_send dc_NumberPlay_send pm_NumberPlay_send an_NumberPlay_send cd_NumberPlay_send ct_NumberPlay_send), sl_NumberPlay_send⟩)
    (c_NumberPlay_send : PySem.W.codeIn K cd_NumberPlay_send "NumberPlay.send" = true)
    (k_NumberPlay_send : PySem.W.keepIn K (.ref f_NumberPlay_send) = true)
    (a_NumberPlay_come : PySem.W.findIn K (.ref C_NumberPlay) "come" = some (some (.ref f_NumberPlay_come)))
    (i_NumberPlay_come : PySem.W.isFn K (.ref f_NumberPlay_come) = true)
    (l_NumberPlay_come : K.lookup f_NumberPlay_come = some ⟨oc_NumberPlay_come, od_NumberPlay_come, .func (PySem.W.fnOf "come" "NumberPlay.come" (defArgs S_NumberPlay_come) (defBody S_NumberPlay_come) (defScope S_NumberPlay_come) .none kV_NumberPlay_come dc_NumberPlay_come pm_NumberPlay_come an_NumberPlay_come cd_NumberPlay_come ct_NumberPlay_come), sl_NumberPlay_come⟩)
    (c_NumberPlay_come : PySem.W.codeIn K cd_NumberPlay_come "NumberPlay.come" = true)
    (k_NumberPlay_come : PySem.W.keepIn K (.ref f_NumberPlay_come) = true)
    (a_NumberPlay_hear : PySem.W.findIn K (.ref C_NumberPlay) "hear" = some (some (.ref f_NumberPlay_hear)))
    (i_NumberPlay_hear : PySem.W.isFn K (.ref f_NumberPlay_hear) = true)
    (l_NumberPlay_hear : K.lookup f_NumberPlay_hear = some ⟨oc_NumberPlay_hear, od_NumberPlay_hear, .func (PySem.W.fnOf "hear" "NumberPlay.hear" (defArgs S_NumberPlay_hear) (defBody S_NumberPlay_hear) (defScope S_NumberPlay_hear) .none kV_NumberPlay_hear dc_NumberPlay_hear pm_NumberPlay_hear an_NumberPlay_hear cd_NumberPlay_hear ct_NumberPlay_hear), sl_NumberPlay_hear⟩)
    (c_NumberPlay_hear : PySem.W.codeIn K cd_NumberPlay_hear "NumberPlay.hear" = true)
    (k_NumberPlay_hear : PySem.W.keepIn K (.ref f_NumberPlay_hear) = true)
    (a_NumberPlay_act : PySem.W.findIn K (.ref C_NumberPlay) "act" = some (some (.ref f_NumberPlay_act)))
    (i_NumberPlay_act : PySem.W.isFn K (.ref f_NumberPlay_act) = true)
    (l_NumberPlay_act : K.lookup f_NumberPlay_act = some ⟨oc_NumberPlay_act, od_NumberPlay_act, .func (PySem.W.fnOf "act" "NumberPlay.act" (defArgs S_NumberPlay_act) (defBody S_NumberPlay_act) (defScope S_NumberPlay_act) .none kV_NumberPlay_act dc_NumberPlay_act pm_NumberPlay_act an_NumberPlay_act cd_NumberPlay_act ct_NumberPlay_act), sl_NumberPlay_act⟩)
    (c_NumberPlay_act : PySem.W.codeIn K cd_NumberPlay_act "NumberPlay.act" = true)
    (k_NumberPlay_act : PySem.W.keepIn K (.ref f_NumberPlay_act) = true)
    (a_play_numbers : PySem.W.nsIn K mainGlobals "play_numbers" = some (some (.ref f_play_numbers)))
    (l_play_numbers : K.lookup f_play_numbers = some ⟨oc_play_numbers, od_play_numbers, .func (PySem.W.fnOf "play_numbers" "play_numbers" (defArgs S_play_numbers) (defBody S_play_numbers) (defScope S_play_numbers) .none kV_play_numbers dc_play_numbers pm_play_numbers an_play_numbers cd_play_numbers ct_play_numbers), sl_play_numbers⟩)
    (c_play_numbers : PySem.W.codeIn K cd_play_numbers "play_numbers" = true)
    (k_play_numbers : PySem.W.keepIn K (.ref f_play_numbers) = true)
    (a_fooling : PySem.W.nsIn K mainGlobals "fooling" = some (some (.ref f_fooling)))
    (l_fooling : K.lookup f_fooling = some ⟨oc_fooling, od_fooling, .func (PySem.W.fnOf "fooling" "fooling" (defArgs S_fooling) (defBody S_fooling) (defScope S_fooling) .none kV_fooling dc_fooling pm_fooling an_fooling cd_fooling ct_fooling), sl_fooling⟩)
    (c_fooling : PySem.W.codeIn K cd_fooling "fooling" = true)
    (k_fooling : PySem.W.keepIn K (.ref f_fooling) = true)
    (a_u_law_next : PySem.W.nsIn K mainGlobals "_law_next" = some (some (.ref f_u_law_next)))
    (l_u_law_next : K.lookup f_u_law_next = some ⟨oc_u_law_next, od_u_law_next, .func (PySem.W.fnOf "_law_next" "_law_next" (defArgs S_u_law_next) (defBody S_u_law_next) (defScope S_u_law_next) .none kV_u_law_next dc_u_law_next pm_u_law_next an_u_law_next cd_u_law_next ct_u_law_next), sl_u_law_next⟩)
    (c_u_law_next : PySem.W.codeIn K cd_u_law_next "_law_next" = true)
    (k_u_law_next : PySem.W.keepIn K (.ref f_u_law_next) = true)
    (a_u_law_acts : PySem.W.nsIn K mainGlobals "_law_acts" = some (some (.ref f_u_law_acts)))
    (l_u_law_acts : K.lookup f_u_law_acts = some ⟨oc_u_law_acts, od_u_law_acts, .func (PySem.W.fnOf "_law_acts" "_law_acts" (defArgs S_u_law_acts) (defBody S_u_law_acts) (defScope S_u_law_acts) .none kV_u_law_acts dc_u_law_acts pm_u_law_acts an_u_law_acts cd_u_law_acts ct_u_law_acts), sl_u_law_acts⟩)
    (c_u_law_acts : PySem.W.codeIn K cd_u_law_acts "_law_acts" = true)
    (k_u_law_acts : PySem.W.keepIn K (.ref f_u_law_acts) = true)
    (a_u_law_fooled : PySem.W.nsIn K mainGlobals "_law_fooled" = some (some (.ref f_u_law_fooled)))
    (l_u_law_fooled : K.lookup f_u_law_fooled = some ⟨oc_u_law_fooled, od_u_law_fooled, .func (PySem.W.fnOf "_law_fooled" "_law_fooled" (defArgs S_u_law_fooled) (defBody S_u_law_fooled) (defScope S_u_law_fooled) .none kV_u_law_fooled dc_u_law_fooled pm_u_law_fooled an_u_law_fooled cd_u_law_fooled ct_u_law_fooled), sl_u_law_fooled⟩)
    (c_u_law_fooled : PySem.W.codeIn K cd_u_law_fooled "_law_fooled" = true)
    (k_u_law_fooled : PySem.W.keepIn K (.ref f_u_law_fooled) = true)
    (a_law : PySem.W.nsIn K mainGlobals "law" = some (some (.ref f_law)))
    (l_law : K.lookup f_law = some ⟨oc_law, od_law, .func (PySem.W.fnOf "law" "law" (defArgs S_law) (defBody S_law) (defScope S_law) .none kV_law dc_law pm_law an_law cd_law ct_law), sl_law⟩)
    (c_law : PySem.W.codeIn K cd_law "law" = true)
    (k_law : PySem.W.keepIn K (.ref f_law) = true)
    (pg_NumberPlay : PySem.W.plainGet K C_NumberPlay Str.empty = true)
    (hd_NumberPlay : PySem.W.hasDictIn K C_NumberPlay = true)
    (po_NumberPlay : PySem.W.plainOver K C_NumberPlay = true)
    (sa_NumberPlay : PySem.W.findIn K (.ref C_NumberPlay) "__setattr__" = some (some (.builtin "object.__setattr__")))
    (mk_NumberPlay : PySem.W.makesIn K C_NumberPlay = true)
    (kc_NumberPlay : PySem.W.keepIn K (.ref C_NumberPlay) = true)
    (nf_NumberPlay_bits : PySem.W.findIn K (.ref C_NumberPlay) "bits" = some none)
    (nf_NumberPlay_window : PySem.W.findIn K (.ref C_NumberPlay) "window" = some none)
    (nf_NumberPlay_base : PySem.W.findIn K (.ref C_NumberPlay) "base" = some none)
    (nf_NumberPlay_next : PySem.W.findIn K (.ref C_NumberPlay) "next" = some none)
    (nf_NumberPlay_low : PySem.W.findIn K (.ref C_NumberPlay) "low" = some none)
    (nf_NumberPlay_ahead : PySem.W.findIn K (.ref C_NumberPlay) "ahead" = some none)
    (nf_NumberPlay_air : PySem.W.findIn K (.ref C_NumberPlay) "air" = some none)
    (nf_NumberPlay_back : PySem.W.findIn K (.ref C_NumberPlay) "back" = some none)
    (nf_NumberPlay_wrong_numbers : PySem.W.findIn K (.ref C_NumberPlay) "wrong_numbers" = some none)
    (nf_NumberPlay_wrong_lows : PySem.W.findIn K (.ref C_NumberPlay) "wrong_lows" = some none)
    : ∃ fd : FuncData, (∀ (s : Shared) (v : Value), BindsTo s fd ⟨[v], []⟩ [("script", v)]) ∧ ∀ base : Heap, K.In base → base.Ns mainGlobals mg → FnOk P w K mg base CX0 5 fa fd ["script"] (ip_law K) := by
  have e := hfa.symm.trans (PySem.W.mg_of X G a_law)
  cases e
  have F_window_size := fun_mk (st := S_window_size) l_window_size c_window_size k_window_size
  have b_window_size := F_window_size.binds (ps := ["bits"]) fun _ _ _ _ _ _ us hl => match us, hl with | [_], _ => rfl
  have F_short := fun_mk (st := S_short) l_short c_short k_short
  have b_short := F_short.binds (ps := ["number", "bits"]) fun _ _ _ _ _ _ us hl => match us, hl with | [_, _], _ => rfl
  have F_distance := fun_mk (st := S_distance) l_distance c_distance k_distance
  have b_distance := F_distance.binds (ps := ["base", "value", "bits"]) fun _ _ _ _ _ _ us hl => match us, hl with | [_, _, _], _ => rfl
  have F_NumberPlay___init__ := fun_mk (st := S_NumberPlay___init__) l_NumberPlay___init__ c_NumberPlay___init__ k_NumberPlay___init__
  have b_NumberPlay___init__ := F_NumberPlay___init__.binds (ps := ["self", "bits", "window"]) fun _ _ _ _ _ _ us hl => match us, hl with | [_, _, _], _ => rfl
  have F_NumberPlay_send := fun_mk (st := S_NumberPlay_send) l_NumberPlay_send c_NumberPlay_send k_NumberPlay_send
  have b_NumberPlay_send := F_NumberPlay_send.binds (ps := ["self", "number"]) fun _ _ _ _ _ _ us hl => match us, hl with | [_, _], _ => rfl
  have F_NumberPlay_come := fun_mk (st := S_NumberPlay_come) l_NumberPlay_come c_NumberPlay_come k_NumberPlay_come
  have b_NumberPlay_come := F_NumberPlay_come.binds (ps := ["self"]) fun _ _ _ _ _ _ us hl => match us, hl with | [_], _ => rfl
  have F_NumberPlay_hear := fun_mk (st := S_NumberPlay_hear) l_NumberPlay_hear c_NumberPlay_hear k_NumberPlay_hear
  have b_NumberPlay_hear := F_NumberPlay_hear.binds (ps := ["self"]) fun _ _ _ _ _ _ us hl => match us, hl with | [_], _ => rfl
  have F_NumberPlay_act := fun_mk (st := S_NumberPlay_act) l_NumberPlay_act c_NumberPlay_act k_NumberPlay_act
  have b_NumberPlay_act := F_NumberPlay_act.binds (ps := ["self", "act"]) fun _ _ _ _ _ _ us hl => match us, hl with | [_, _], _ => rfl
  have F_play_numbers := fun_mk (st := S_play_numbers) l_play_numbers c_play_numbers k_play_numbers
  have b_play_numbers := F_play_numbers.binds (ps := ["bits", "window", "acts"]) fun _ _ _ _ _ _ us hl => match us, hl with | [_, _, _], _ => rfl
  have F_fooling := fun_mk (st := S_fooling) l_fooling c_fooling k_fooling
  have b_fooling := F_fooling.binds (ps := ["bits"]) fun _ _ _ _ _ _ us hl => match us, hl with | [_], _ => rfl
  have F_u_law_next := fun_mk (st := S_u_law_next) l_u_law_next c_u_law_next k_u_law_next
  have b_u_law_next := F_u_law_next.binds (ps := ["tape", "many"]) fun _ _ _ _ _ _ us hl => match us, hl with | [_, _], _ => rfl
  have F_u_law_acts := fun_mk (st := S_u_law_acts) l_u_law_acts c_u_law_acts k_u_law_acts
  have b_u_law_acts := F_u_law_acts.binds (ps := ["tape", "bits", "window"]) fun _ _ _ _ _ _ us hl => match us, hl with | [_, _, _], _ => rfl
  have F_u_law_fooled := fun_mk (st := S_u_law_fooled) l_u_law_fooled c_u_law_fooled k_u_law_fooled
  have b_u_law_fooled := F_u_law_fooled.binds (ps := ["bits"]) fun _ _ _ _ _ _ us hl => match us, hl with | [_], _ => rfl
  have F_law := fun_mk (st := S_law) l_law c_law k_law
  have b_law := F_law.binds (ps := ["script"]) fun _ _ _ _ _ _ us hl => match us, hl with | [_], _ => rfl
  refine ⟨PySem.W.fnOf "law" "law" (defArgs S_law) (defBody S_law) (defScope S_law) .none kV_law dc_law pm_law an_law cd_law ct_law, fun s v => .of_eq rfl, fun base _ _ => ?_⟩
  exact ok_law (T := ({
      n_len := PySem.W.mg_none_of X G z_len,
      n_range := PySem.W.mg_none_of X G z_range,
      n_abs := PySem.W.mg_none_of X G z_abs,
      n_int := PySem.W.mg_none_of X G z_int,
      n_min := PySem.W.mg_none_of X G z_min,
      n_isinstance := PySem.W.mg_none_of X G z_isinstance,
      n_list := PySem.W.mg_none_of X G z_list,
      n_tuple := PySem.W.mg_none_of X G z_tuple,
      n_bool := PySem.W.mg_none_of X G z_bool,
      C_NumberPlay := C_NumberPlay,
      g_NumberPlay := PySem.W.mg_of X G z_NumberPlay,
      a_window_size := _,
      d_window_size := _,
      p_window_size := ⟨F_window_size, b_window_size, PySem.W.mg_of X G a_window_size⟩,
      a_short := _,
      d_short := _,
      p_short := ⟨F_short, b_short, PySem.W.mg_of X G a_short⟩,
      a_distance := _,
      d_distance := _,
      p_distance := ⟨F_distance, b_distance, PySem.W.mg_of X G a_distance⟩,
      a_NumberPlay___init__ := _,
      d_NumberPlay___init__ := _,
      p_NumberPlay___init__ := ⟨F_NumberPlay___init__, b_NumberPlay___init__, ⟨a_NumberPlay___init__, i_NumberPlay___init__, k_NumberPlay___init__⟩⟩,
      a_NumberPlay_send := _,
      d_NumberPlay_send := _,
      p_NumberPlay_send := ⟨F_NumberPlay_send, b_NumberPlay_send, ⟨a_NumberPlay_send, i_NumberPlay_send, k_NumberPlay_send⟩⟩,
      a_NumberPlay_come := _,
      d_NumberPlay_come := _,
      p_NumberPlay_come := ⟨F_NumberPlay_come, b_NumberPlay_come, ⟨a_NumberPlay_come, i_NumberPlay_come, k_NumberPlay_come⟩⟩,
      a_NumberPlay_hear := _,
      d_NumberPlay_hear := _,
      p_NumberPlay_hear := ⟨F_NumberPlay_hear, b_NumberPlay_hear, ⟨a_NumberPlay_hear, i_NumberPlay_hear, k_NumberPlay_hear⟩⟩,
      a_NumberPlay_act := _,
      d_NumberPlay_act := _,
      p_NumberPlay_act := ⟨F_NumberPlay_act, b_NumberPlay_act, ⟨a_NumberPlay_act, i_NumberPlay_act, k_NumberPlay_act⟩⟩,
      a_play_numbers := _,
      d_play_numbers := _,
      p_play_numbers := ⟨F_play_numbers, b_play_numbers, PySem.W.mg_of X G a_play_numbers⟩,
      a_fooling := _,
      d_fooling := _,
      p_fooling := ⟨F_fooling, b_fooling, PySem.W.mg_of X G a_fooling⟩,
      a_u_law_next := _,
      d_u_law_next := _,
      p_u_law_next := ⟨F_u_law_next, b_u_law_next, PySem.W.mg_of X G a_u_law_next⟩,
      a_u_law_acts := _,
      d_u_law_acts := _,
      p_u_law_acts := ⟨F_u_law_acts, b_u_law_acts, PySem.W.mg_of X G a_u_law_acts⟩,
      a_u_law_fooled := _,
      d_u_law_fooled := _,
      p_u_law_fooled := ⟨F_u_law_fooled, b_u_law_fooled, PySem.W.mg_of X G a_u_law_fooled⟩,
      a_law := _,
      d_law := _,
      p_law := ⟨F_law, b_law, PySem.W.mg_of X G a_law⟩,
      k_NumberPlay := ⟨⟨pg_NumberPlay, hd_NumberPlay, po_NumberPlay, sa_NumberPlay⟩, ⟨mk_NumberPlay, a_NumberPlay___init__, i_NumberPlay___init__, kc_NumberPlay⟩⟩,
      f_NumberPlay_bits := nf_NumberPlay_bits,
      f_NumberPlay_window := nf_NumberPlay_window,
      f_NumberPlay_base := nf_NumberPlay_base,
      f_NumberPlay_next := nf_NumberPlay_next,
      f_NumberPlay_low := nf_NumberPlay_low,
      f_NumberPlay_ahead := nf_NumberPlay_ahead,
      f_NumberPlay_air := nf_NumberPlay_air,
      f_NumberPlay_back := nf_NumberPlay_back,
      f_NumberPlay_wrong_numbers := nf_NumberPlay_wrong_numbers,
      f_NumberPlay_wrong_lows := nf_NumberPlay_wrong_lows
    } : Tx P w K mg base))
theorem walk {l : PySem.W.OpenLaw} {q : Program} {loose : List Str} {XP : (Str → Option Value) → Heap → Prop} {YP : World → Heap → Prop} {d : DefRec} {K : Params → PySem.W.Frag} (hn : l.most = some 63) (hdf : d.params.defaults = [])
    (hY : ∀ (w : World) (h : Heap), YP w h → (K w.params).In h)
    (F : ∀ (w : World) (mg : Str → Option Value) (fa : Addr) (h : Heap), (K w.params).In h → h.Ns mainGlobals mg → mg d.name = some (.ref fa) →
      ∃ fd : FuncData, (∀ (s : Shared) (u : Value), BindsTo s fd ⟨[u], []⟩ [("script", u)]) ∧ ∀ base : Heap, (K w.params).In base → base.Ns mainGlobals mg → FnOk l.prog w (K w.params) mg base CX0 5 fa fd ["script"] (ip_law (K w.params))) :
    PySem.W.WalkO q loose XP YP l.row.toRowW d [] (fun f vs => PySem.call f vs) :=
  L2.walk_of (n := 63) (k := 5) (x := "script") (CX := fun _ => CX0) (sp := fun w => ip_law (K w.params)) hn (by decide) hdf ⟨rfl, by decide, by decide⟩ hY F (fun _ _ a ns hl _ hS => op_law ⟨a, ns, rfl, hS, hl, fun _ => rfl⟩) fun _ _ _ _ _ z => z
end My
open PySem PySem.W PyProof.Rows
set_option maxRecDepth 100000 in
set_option maxHeartbeats 0 in
theorem PySem.Challenge.cw_bearerwise_k12_whole_no_number_is_read_w_holds : PySem.Challenge.rw_bearerwise_k12_whole_no_number_is_read_w.Holds := by
  w_on; o_law; k_head; (case hw => w_witness2)
  k_fill
  refine My.walk (l := PySem.Challenge.rw_bearerwise_k12_whole_no_number_is_read_w) rfl rfl (fun w h Y => PySem.W.kIn_of Y) ?F
  case F =>
    intro w mg fa h KX G hmg
    refine' My.all_mk KX G hmg ?z_len ?z_range ?z_abs ?z_int ?z_min ?z_isinstance ?z_list ?z_tuple ?z_bool ?z_NumberPlay ?a_window_size ?l_window_size ?c_window_size ?k_window_size ?a_short ?l_short ?c_short ?k_short ?a_distance ?l_distance ?c_distance ?k_distance ?a_NumberPlay___init__ ?i_NumberPlay___init__ ?l_NumberPlay___init__ ?c_NumberPlay___init__ ?k_NumberPlay___init__ ?a_NumberPlay_send ?i_NumberPlay_send ?l_NumberPlay_send ?c_NumberPlay_send ?k_NumberPlay_send ?a_NumberPlay_come ?i_NumberPlay_come ?l_NumberPlay_come ?c_NumberPlay_come ?k_NumberPlay_come ?a_NumberPlay_hear ?i_NumberPlay_hear ?l_NumberPlay_hear ?c_NumberPlay_hear ?k_NumberPlay_hear ?a_NumberPlay_act ?i_NumberPlay_act ?l_NumberPlay_act ?c_NumberPlay_act ?k_NumberPlay_act ?a_play_numbers ?l_play_numbers ?c_play_numbers ?k_play_numbers ?a_fooling ?l_fooling ?c_fooling ?k_fooling ?a_u_law_next ?l_u_law_next ?c_u_law_next ?k_u_law_next ?a_u_law_acts ?l_u_law_acts ?c_u_law_acts ?k_u_law_acts ?a_u_law_fooled ?l_u_law_fooled ?c_u_law_fooled ?k_u_law_fooled ?a_law ?l_law ?c_law ?k_law ?pg_NumberPlay ?hd_NumberPlay ?po_NumberPlay ?sa_NumberPlay ?mk_NumberPlay ?kc_NumberPlay ?nf_NumberPlay_bits ?nf_NumberPlay_window ?nf_NumberPlay_base ?nf_NumberPlay_next ?nf_NumberPlay_low ?nf_NumberPlay_ahead ?nf_NumberPlay_air ?nf_NumberPlay_back ?nf_NumberPlay_wrong_numbers ?nf_NumberPlay_wrong_lows
    (case z_len => k_is)
    (case z_range => k_is)
    (case z_abs => k_is)
    (case z_int => k_is)
    (case z_min => k_is)
    (case z_isinstance => k_is)
    (case z_list => k_is)
    (case z_tuple => k_is)
    (case z_bool => k_is)
    (case z_NumberPlay => k_is)
    (case a_window_size => k_is)
    (case l_window_size => k_is)
    (case c_window_size => k_is)
    (case k_window_size => k_is)
    (case a_short => k_is)
    (case l_short => k_is)
    (case c_short => k_is)
    (case k_short => k_is)
    (case a_distance => k_is)
    (case l_distance => k_is)
    (case c_distance => k_is)
    (case k_distance => k_is)
    (case a_NumberPlay___init__ => k_is)
    (case i_NumberPlay___init__ => k_is)
    (case l_NumberPlay___init__ => k_is)
    (case c_NumberPlay___init__ => k_is)
    (case k_NumberPlay___init__ => k_is)
    (case a_NumberPlay_send => k_is)
    (case i_NumberPlay_send => k_is)
    (case l_NumberPlay_send => k_is)
    (case c_NumberPlay_send => k_is)
    (case k_NumberPlay_send => k_is)
    (case a_NumberPlay_come => k_is)
    (case i_NumberPlay_come => k_is)
    (case l_NumberPlay_come => k_is)
    (case c_NumberPlay_come => k_is)
    (case k_NumberPlay_come => k_is)
    (case a_NumberPlay_hear => k_is)
    (case i_NumberPlay_hear => k_is)
    (case l_NumberPlay_hear => k_is)
    (case c_NumberPlay_hear => k_is)
    (case k_NumberPlay_hear => k_is)
    (case a_NumberPlay_act => k_is)
    (case i_NumberPlay_act => k_is)
    (case l_NumberPlay_act => k_is)
    (case c_NumberPlay_act => k_is)
    (case k_NumberPlay_act => k_is)
    (case a_play_numbers => k_is)
    (case l_play_numbers => k_is)
    (case c_play_numbers => k_is)
    (case k_play_numbers => k_is)
    (case a_fooling => k_is)
    (case l_fooling => k_is)
    (case c_fooling => k_is)
    (case k_fooling => k_is)
    (case a_u_law_next => k_is)
    (case l_u_law_next => k_is)
    (case c_u_law_next => k_is)
    (case k_u_law_next => k_is)
    (case a_u_law_acts => k_is)
    (case l_u_law_acts => k_is)
    (case c_u_law_acts => k_is)
    (case k_u_law_acts => k_is)
    (case a_u_law_fooled => k_is)
    (case l_u_law_fooled => k_is)
    (case c_u_law_fooled => k_is)
    (case k_u_law_fooled => k_is)
    (case a_law => k_is)
    (case l_law => k_is)
    (case c_law => k_is)
    (case k_law => k_is)
    (case pg_NumberPlay => k_is)
    (case hd_NumberPlay => k_is)
    (case po_NumberPlay => k_is)
    (case sa_NumberPlay => k_is)
    (case mk_NumberPlay => k_is)
    (case kc_NumberPlay => k_is)
    (case nf_NumberPlay_bits => k_is)
    (case nf_NumberPlay_window => k_is)
    (case nf_NumberPlay_base => k_is)
    (case nf_NumberPlay_next => k_is)
    (case nf_NumberPlay_low => k_is)
    (case nf_NumberPlay_ahead => k_is)
    (case nf_NumberPlay_air => k_is)
    (case nf_NumberPlay_back => k_is)
    (case nf_NumberPlay_wrong_numbers => k_is)
    (case nf_NumberPlay_wrong_lows => k_is)

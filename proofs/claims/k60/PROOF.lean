import PyProof.Rows.All
import Wide.All
import OpenK.AllK
import Wide.FinOn
import HandS.ForMost
import HandS.Evl
import HandS.IsInst
import HandS.TupLe
import HandS.Conv
import HandS.SetFor
import HandS.Zip
import HandS.Defaults
import KE.KEqSeq
import PyProof.ReprRoads
import HandS.Star
import HandS.More
import KE.KSuper
import HandS.Zip0
import KE.KDictZip
import HandS.SortInts
import HandS.TupAny
import HandS.Iter
import KE.GoesEnum
import HandS.Walk
import HandS.DictComp
import HandS.Exc
import HandS.Lambda
import HandS.TryOnly
import HandS.Call
import KE.KExcIs
import HandS.ForSpec
import HandS.ExcOwn
import HandS.EndTab
import HandS.SortKw
import KE.KMinKey
import KE.DatumOrd
import HandS.Strs
import HandS.Text
import HandS.StrMore
import PyProof.DefStmt
import PyProof.StrOps2
import PyProof.FitsStr
import PyProof.SliceStr2
import HandS.Style
import HandS.TupMul
import HandS.ExcIs
import PySem.Challenge.RW_threelanes_k60_labels_written_and_read
set_option Elab.async false
set_option linter.all false
set_option maxRecDepth 100000
section S_Ru
namespace Tl
open PySem PySem.Spec PyProof.Rows L2
/-! ### len(set(x)) of a list or a tuple of ints, unlike or not -/
theorem met_len (ns : List Int) : ∀ i, i ≤ ns.length → ((firstMet (fun i => ns.getD i 0) i).length = i ↔ (ns.take i).Nodup) ∧ ∀ k, k ∈ firstMet (fun i => ns.getD i 0) i ↔ k ∈ ns.take i
  | 0, _ => by
    rw [firstMet_zero]
    simp
  | i + 1, h => by
    have hi : i < ns.length := h
    obtain ⟨a1, a2⟩ := met_len ns i (Nat.le_of_lt hi)
    have ex : ns.getD i 0 = ns[i] := by simp [List.getD_eq_getElem?_getD, hi]
    have et : ns.take (i + 1) = ns.take i ++ [ns[i]] := by rw [List.take_add_one, List.getElem?_eq_getElem hi] <;> rfl
    have eb : (firstMet (fun i => ns.getD i 0) i).any (· == ns[i]) = true ↔ ns[i] ∈ ns.take i := by
      rw [List.any_eq_true]
      constructor
      · intro ⟨x, hx, he⟩
        rw [← beq_iff_eq.mp he]
        exact (a2 x).mp hx
      · intro hx
        exact ⟨_, (a2 _).mpr hx, beq_self_eq_true _⟩
    have le := firstMet_length_le (fun i => ns.getD i 0) i
    rw [firstMet_succ, et]
    show ((step_dedup _ (ns.getD i 0)).length = i + 1 ↔ _) ∧ _
    rw [ex]
    unfold step_dedup
    have nd : (ns.take i ++ [ns[i]]).Nodup ↔ (ns.take i).Nodup ∧ ns[i] ∉ ns.take i := by
      rw [List.nodup_append]
      simp
      exact fun _ => ⟨fun y z => y _ z rfl, fun y a ha e => y (e ▸ ha)⟩
    by_cases hm : ns[i] ∈ ns.take i
    · rw [if_pos (eb.mpr hm)]
      refine ⟨⟨fun e => by omega, fun e => absurd hm (nd.mp e).2⟩, fun k => ?_⟩
      rw [a2 k, List.mem_append, List.mem_singleton]
      exact ⟨.inl, fun z => z.elim id fun e => e ▸ hm⟩
    · rw [if_neg (fun z => hm (eb.mp z))]
      refine ⟨?_, fun k => ?_⟩
      · rw [List.length_append, List.length_singleton, nd]
        exact ⟨fun e => ⟨a1.mp (by omega), hm⟩, fun e => by rw [a1.mpr e.1]⟩
      · rw [List.mem_append, List.mem_append, a2 k]
def tLenSetN (K : PySem.W.Frag) (ta : TE) : TE := fun σ H Q => ta σ H fun x H1 => ∃ (l : Addr) (ns : List Int), x = .ref l ∧ SqL K H1 l (ns.map V.int) ∧ ns.length ≤ 4000 ∧ ∀ c : Nat, (c = ns.length ↔ ns.Nodup) → Q (.int (c : Int)) H1
theorem pe_lenSetN {X : Cx} {a : Expr} {ta : TE} {p p2 q pos : Pos} (hg : Gl X "len") (hm : X.mg "len" = none) (hg2 : Gl X "set") (hm2 : X.mg "set" = none) (ha : PE X a ta) (hc : X.calm = true := by rfl)
    (na : starEach [a] X.env = (false, eval a X.env) :: starEach [] X.env := by rfl) : PE X (.Call (.Name "len" p) [.Call (.Name "set" p2) [a] [] q] [] pos) (tLenSetN X.K ta) := by
  constructor
  intro pins s σ H Q I h
  refine Call_ (ld_blt I hg hm boot_len (callWith_builtin1 (args_cons (Call_ (ld_blt I hg2 hm2 boot_set (callWith_type1 (args_cons (thn (ha.run pins s σ H _ I h) fun v s1 hv => args_nil ?_) na) na rfl))) rfl) rfl rfl))
  obtain ⟨x, H1, I1, r1, l, ns, rfl, hq, hl, q1⟩ := hv
  cases r1
  obtain ⟨its, r, pl, hz⟩ := I1.list hq
  have hn : its.toArray.size = ns.length := by rw [List.size_toArray, ← r.length, List.length_map]
  refine call_set_list (I1.ok.hd hc) pl.isList (by simpa using RZ.intsAre_vals r) (by rw [hn]; unfold scanBound; omega) fun h' tk hS hk => args_nil ?_
  obtain ⟨o, es, ep, t, ho, hex, hd, _, _, hb, hf, hsz⟩ := hS
  have I2 : Inv X pins σ H1 { s1 with heap := h', toks := tk } := I1.kept fun b o e => hk b o (Heap.lt_size e) e
  refine call_len_set ho hex hd hf (by unfold scanBound at hb; omega) ⟨.int es.size, H1, I2.tok _, ⟨_, rfl⟩, q1 es.size ?_⟩
  rw [hsz, hn]
  have e := (met_len ns ns.length (Nat.le_refl _)).1
  rwa [List.take_length] at e
/-- the same of a tuple -/
def tLenSetU (K : PySem.W.Frag) (ta : TE) : TE := fun σ H Q => ta σ H fun x H1 => ∃ (l : Addr) (ns : List Int), x = .ref l ∧ SqT K H1 l (ns.map V.int) ∧ ns.length ≤ 4000 ∧ ∀ c : Nat, (c = ns.length ↔ ns.Nodup) → Q (.int (c : Int)) H1
theorem nodup_same {as bs : List Int} (ha : as.Nodup) (hm : ∀ k, k ∈ bs ↔ k ∈ as) : as.length = bs.length ↔ bs.Nodup := by
  have sub : ∀ (as bs : List Int), as.Nodup → (∀ k, k ∈ as → k ∈ bs) → as.length ≤ bs.length := by
    intro as
    induction as with
    | nil => intro bs _ _; exact Nat.zero_le _
    | cons a r ih =>
      intro bs hn hs
      rw [List.nodup_cons] at hn
      have h1 : a ∈ bs := hs a List.mem_cons_self
      have h2 := ih (bs.erase a) hn.2 fun k hk => by
        have hne : k ≠ a := fun e => hn.1 (e ▸ hk)
        exact (List.mem_erase_of_ne hne).mpr (hs k (List.mem_cons_of_mem _ hk))
      rw [List.length_erase_of_mem h1] at h2
      have h3 : 0 < bs.length := List.length_pos_of_mem h1
      rw [List.length_cons]
      omega
  have strict : ∀ (bs as : List Int), as.Nodup → (∀ k, k ∈ as → k ∈ bs) → ¬ bs.Nodup → as.length < bs.length := by
    intro bs
    induction bs with
    | nil => intro as _ _ h; exact absurd List.nodup_nil h
    | cons b r ih =>
      intro as hn hs hb
      rw [List.length_cons]
      by_cases hbr : b ∈ r
      · have := sub as r hn fun k hk => by
          rcases List.mem_cons.mp (hs k hk) with e | e
          · rw [e]; exact hbr
          · exact e
        omega
      · have hr : ¬ r.Nodup := fun z => hb (List.nodup_cons.mpr ⟨hbr, z⟩)
        have h1 := ih (as.erase b) (hn.erase b) (fun k hk => by
          have h2 := hn.mem_erase_iff.mp hk
          rcases List.mem_cons.mp (hs k h2.2) with e | e
          · exact absurd e h2.1
          · exact e) hr
        by_cases ha : b ∈ as
        · rw [List.length_erase_of_mem ha] at h1
          omega
        · rw [List.erase_of_not_mem ha] at h1
          omega
  constructor
  · intro e
    apply Classical.byContradiction
    intro h
    have := strict bs as ha (fun k hk => (hm k).mpr hk) h
    omega
  · intro hb
    have h1 := sub as bs ha fun k hk => (hm k).mpr hk
    have h2 := sub bs as hb fun k hk => (hm k).mp hk
    omega
theorem pe_lenSetU {X : Cx} {a : Expr} {ta : TE} {p p2 q pos : Pos} (hg : Gl X "len") (hm : X.mg "len" = none) (hg2 : Gl X "set") (hm2 : X.mg "set" = none) (ha : PE X a ta) (hc : X.calm = true := by rfl)
    (na : starEach [a] X.env = (false, eval a X.env) :: starEach [] X.env := by rfl) : PE X (.Call (.Name "len" p) [.Call (.Name "set" p2) [a] [] q] [] pos) (tLenSetU X.K ta) := by
  constructor
  intro pins s σ H Q I h
  refine Call_ (ld_blt I hg hm boot_len (callWith_builtin1 (args_cons (Call_ (ld_blt I hg2 hm2 boot_set (callWith_type1 (args_cons (thn (ha.run pins s σ H _ I h) fun v s1 hv => args_nil ?_) na) na rfl))) rfl) rfl rfl))
  obtain ⟨x, H1, I1, r1, l, ns, rfl, hq, hl, q1⟩ := hv
  cases r1
  obtain ⟨its, r, pl, hz⟩ := I1.tuple hq
  refine call_set_tupI ns (I1.ok.hd hc) pl (by simpa using RZ.intsAre_vals r) (by unfold scanBound; omega) fun h' tk c hS hcl hk => args_nil ?_
  obtain ⟨o, es, ep, t, ho, hex, hd, _, hnd, hS2, hb, hf, hsz, _⟩ := hS
  have I2 : Inv X pins σ H1 { s1 with heap := h', toks := tk } := I1.kept hk
  refine call_len_set ho hex hd hf (by unfold scanBound at hb; omega) ⟨.int es.size, H1, I2.tok _, ⟨_, rfl⟩, q1 es.size ?_⟩
  have e := nodup_same (bs := ns) hnd fun k => by
    rw [← hS2 k]
    simp
  rwa [List.length_map, Array.length_toList] at e
/-! ### repr of data, where no repr is under way -/
def rRepr (K : PySem.W.Frag) : List V → Hp → VK → Prop := fun xs H Q => ∃ (a : Addr) (d : PyData), xs = [.ref a] ∧ Dp K H (.ref a) d ∧ d.showable = true ∧ d.hasDict = false ∧ d.depth ≤ 20 ∧ d.shown.length ≤ sizeLine ∧ Q (.str d.shown) H
theorem call_reprD {X : Cx} (hg : X.A.guards = some []) (hu : X.A.units + 64 < cLine) : CallR X (.builtin "repr") (rRepr X.K) := by
  intro pins s σ H xs us Q I r h
  obtain ⟨a, d, rfl, hd, hs, hn, hp, hz, q⟩ := h
  obtain ⟨u, rfl, ru⟩ := vals1 r
  cases ru
  obtain ⟨as, rd⟩ := Dp.reads I d _ _ hd rfl
  exact repr_of_reads' rd hs (PyData.noDict_hsm hn) hg (by omega) (fun _ _ e => e) (fun h' u tk hk => ⟨.str d.shown, H, I.kept hk, ⟨_, rfl⟩, q⟩) hz
/-! ### a call by keywords alone -/
theorem kbn_of {K : PySem.W.Frag} {x qual : Str} {st : Stmt} {f : Addr} {fd : FuncData} {ps : List Str} (F : Fun K x qual st f fd) (n : Nat) (ks : List Str) (g : {α : Type} → List α → List α → List α)
    (rel : ∀ {vs zs : List V} {us ws : List Value}, Vals vs us → Vals zs ws → Vals (g vs zs) (g us ws))
    (h : ∀ (kV doc pm : Value) (an : Option Addr) (cdv ct : Value) (us ws : List Value), us.length = n → ws.length = ks.length → bindArgs (PySem.W.fnOf x qual (defArgs st) (defBody st) (defScope st) .none kV doc pm an cdv ct) ⟨us, ks.zip ws⟩ = pure (ps.zip (g us ws))) :
    KBn K fd ps n ks (fun us ws => g us ws) (fun vs zs => g vs zs) := by
  obtain ⟨_, _, kV, doc, pm, an, cdv, ct, _, rfl, _, _⟩ := F.ex
  exact ⟨fun s us ws _ l1 l2 => .of_eq (h kV doc pm an cdv ct us ws l1 l2), rel⟩
theorem pe_callN0 {X : Cx} {CX : CXT} {k : Nat} {f : Addr} {fd : FuncData} {ps ks : List Str} {sp : Sp} {E : XK} {x : Str} {p pos : Pos} {kws : List Keyword} {tk : TA} {g : List Value → List Value → List Value} {gV : List V → List V → List V}
    (F : FnOk X.prog X.w X.K X.mg X.base CX k f fd ps sp) (hr : Room k X.A) (hg : Gl X x) (hm : X.mg x = some (.ref f)) (hk : PySem.W.keepIn X.K (.ref f) = true) (hb : KBn X.K fd ps 0 ks g gV) (hx : Passes CX X E)
    (hkw : PK X kws tk) (hall : (backToKw pos (keywordEach kws X.env)).all (·.1.isSome) = true := by rfl) (hks : (backToKw pos (keywordEach kws X.env)).filterMap (·.1) = ks := by rfl) (hdb : (x == ("__debug__" : Str)) = false := by decide)
    (hpl : ((backTo pos (starEach [] X.env)).any (·.1) || (backToKw pos (keywordEach kws X.env)).any (·.1.isNone)) = false := by rfl) :
    PE X (.Call (.Name x p) [] kws pos) (tCallN 0 ks.length sp gV E tNil tk) := by
  constructor
  intro pins s σ H Q I h
  refine wpAny_Call_Name_kw (ld_glob I hg hm (PySem.W.callWith_KW0 (h₀ := X.base) I.ok.mod.kin hk hall (thn (hkw.run pos pins s σ H _ I h) fun ws s2 hv => ?_) hpl) hdb)
  obtain ⟨zs, H2, I2, rz, l1, l2, q2⟩ := hv
  refine ⟨I2.kIn, ?_⟩
  rw [hks]
  exact run_fnN (us := []) (vs := []) F hr hb hx I2 .nil rz rfl l2 q2
/-! ### defs that are called where no repr is under way -/
structure FnG (P : Program) (w : World) (K : PySem.W.Frag) (mg : Str → Option Value) (base : Heap) (k : Nat) (f : Addr) (fd : FuncData) (ps : List Str) (sp : Sp) : Prop where
  len : ∀ {vs H Q E}, sp vs H Q E → vs.length = ps.length
  go : ∀ {A : Around} {outer : List Env} {s : Shared} {H : Hp} {args : Args} {us : List Value} {vs : List V} {Q : VK} {E : XK}, A.guards = some [] → Room k A → Env0 P w K mg base A outer s H → BindsTo s fd args (ps.zip us) → Vals vs us →
    sp vs H Q E → codeAny (model P w) A (.call (.ref f) args) (CR CX0 outer P w H s Q E) s
theorem fn_g {P : Program} {w : World} {K : PySem.W.Frag} {mg : Str → Option Value} {base : Heap} {x qual : Str} {st : Stmt} {f : Addr} {fd : FuncData} {N ps : List Str} {k : Nat} {sp : Sp} (F : Fun K x qual st f fd) (S : FnScope N ps (defScope st))
    (len : ∀ {vs H Q E}, sp vs H Q E → vs.length = ps.length)
    (hbody : ∀ (cdv : Value) (A : Around) (outer : List Env) (s : Shared) (H : Hp) (vs : List V) (Q : VK) (E : XK), A.guards = some [] → Room k (A.deeper (envOfC qual (defScope st) s.heap.objs.size f cdv)) → sp vs H Q E →
      ∃ t, PSs (cxOf CX0 P w K mg base N qual (defScope st) f cdv A outer s H E).nox (defBody st) t ∧ t { nx := fun _ H' => Q .non H', rt := Q } (start N vs) H) : FnG P w K mg base (k + 1) f fd ps sp := by
  obtain ⟨oc, od, kV, doc, pm, an, cdv, ct, osl, rfl, lk, hcd⟩ := F.ex
  refine ⟨len, fun {A outer s H args us vs Q E} hgd hr e0 hb r hsp => ?_⟩
  have kin : K.In s.heap := e0.mod.kin.keeps fun b o e => (e0.bs b o e).1
  have nl : s.heap.NoLimit := e0.mod.nolimit.keeps fun b o e => (e0.bs b o e).1
  refine codeAny_call_function hr.depth (kin _ _ lk) rfl S.co S.gen rfl (PySem.W.codeRec_of kin hcd) (hb _ _ _ _ (wpAny_newFunctionEnv_cells S.kind ?_ fun env he s1 x => ?_))
  · intro y hy
    have hp : y.1 ∈ ps := (List.of_mem_zip (a := y.1) (b := y.2) hy).1
    exact (S.par y.1 hp).imp id fun q => ⟨q, PySem.W.cellsFrom_some _ _ _ (.inl q)⟩
  · cases he
    obtain ⟨t, ht, hq⟩ := hbody cdv A outer s H vs Q E hgd (hr.deeper _) hsp
    have I := inv_start (CX := CX0) (P := P) (w := w) (base := base) (E := E) (qual := qual) (f := f) (cd := cdv) S hr.hd e0 (len hsp) r x
    refine ⟨nl.keeps x.toInCall.keep, codeAny_func (wpAny_mono (ht.nox.run [] s1 (start N vs) H _ I hq) (fun fl s' hs => ?_) fun _ _ hs => hs)⟩
    cases fl with
    | ret u =>
      obtain ⟨v, σ', H', J, rv, q⟩ := hs
      exact ⟨v, H', J.os, J.bare, J.base, J.hok, rv, q⟩
    | next =>
      obtain ⟨σ', H', J, q⟩ := hs
      exact ⟨.non, H', J.os, J.bare, J.base, J.hok, rfl, q⟩
    | brk => exact hs.elim fun _ h => h.elim fun _ h => h.2.elim
    | cont => exact hs.elim fun _ h => h.elim fun _ h => h.2.elim
/-- the call of the law itself: at its own room no repr is under way -/
theorem law_g {P : Program} {w : World} {K : PySem.W.Frag} {mg mb : Str → Option Value} {k : Nat} {fa a : Addr} {fd : FuncData} {x : Str} {sp : Sp} {s₁ : Shared} {vs : List Value} {ns : List Int}
    (kin : K.In s₁.heap) (hns : s₁.heap.Ns mainGlobals mg) (hb : s₁.heap.Ns builtinsNs mb) (hbb : ∀ x : Str, x ≠ "__name__" → mb x = bootBuiltins x) (hlim : s₁.heap.NoLimit) (hg : s₁.gens = #[])
    (ha : s₁.heap.get? a = some { cls := .type "list", data := .seq vs.toArray }) (hi : IntsAre vs ns) (hl : ns.length ≤ sizeLine) (hr : Room k callerA)
    (F : ∀ base : Heap, K.In base → base.Ns mainGlobals mg → FnG P w K mg base k fa fd [x] sp) (hbind : ∀ (s : Shared) (u : Value), BindsTo s fd ⟨[u], []⟩ [(x, u)])
    (hsp : ∀ H : Hp, Only H → SqL K H a (ns.map V.int) → sp [.ref a] H (fun v _ => v = .bl true) fun _ _ _ => False) :
    codeAny (model P w) callerA (.call (.ref fa) ⟨[.ref a], []⟩) (fun r s' => r = .ok (.ret (.bool true)) ∧ OldK s₁.heap s'.heap ∧ s'.os = s₁.os ∧ AllBare s'.gens) s₁ := by
  have rv := vals_ints hi
  have run : ∀ H : Hp, Only H → SqL K H a (ns.map V.int) → HOk P w H s₁.heap → (∀ b u, H b = some u → b = a ∧ K.lookup a = none) →
      codeAny (model P w) callerA (.call (.ref fa) ⟨[.ref a], []⟩) (fun r s' => r = .ok (.ret (.bool true)) ∧ OldK s₁.heap s'.heap ∧ s'.os = s₁.os ∧ AllBare s'.gens) s₁ := by
    intro H hO hS hok hA
    have none_of : ∀ b : Addr, (b = a → K.lookup a ≠ none) → H b = none := fun b hb => by
      cases q : H b with
      | none => rfl
      | some u =>
        obtain ⟨e1, e2⟩ := hA b u q
        exact absurd e2 (hb e1)
    have ns_of : ∀ {b : Addr} {m : Str → Option Value}, s₁.heap.Ns b m → (hidT s₁.heap H).Ns b m := fun {b m} hm => by
      obtain ⟨o, es, ep, e, d, r⟩ := hm
      refine ⟨o, es, ep, hidT_get e ?_, d, r⟩
      cases q : H b with
      | none => rfl
      | some u =>
        obtain ⟨e1, _⟩ := hA b u q
        rw [e1, ha] at e
        cases e
        exact absurd d (by intro z; cases z)
    have kb : K.In (hidT s₁.heap H) := fun b o e => hidT_get (kin b o e) (none_of b fun e1 z => by
      rw [e1, z] at e
      cases e)
    have hM : Mod K mg (hidT s₁.heap H) := ⟨kb, ns_of hns, ⟨mb, ns_of hb, hbb⟩, hlim.elim fun mc h => ⟨mc, ns_of h.1, h.2⟩⟩
    have e0 : Env0 P w K mg (hidT s₁.heap H) callerA [] s₁ H := ⟨rfl, hM, fun _ _ e => of_hidT e, by rw [hidT_size] <;> exact Nat.le_refl _, trivial, fun _ hb => (nomatch hb), hok, .of_eq hg⟩
    refine codeAny_mono ((F _ kb (ns_of hns)).go rfl hr e0 (us := [.ref a]) (hbind s₁ (.ref a)) (vs := [.ref a]) (.cons rfl .nil) (hsp H hO hS)) fun r s' h => ?_
    match r, h with
    | .ok (.ret u), h =>
      obtain ⟨v, H', os, bare, un, hok', r', q⟩ := h
      cases (show v = .bl true from q)
      cases (show u = Value.bool true from r')
      refine ⟨rfl, OldK.of_keep fun b o e => ?_, os, bare⟩
      rcases hO b with z | ⟨ob, xs, z⟩
      · exact un.keep b o e z (fun y => (nomatch y)) (fun y => (nomatch y))
      · obtain ⟨e1, _⟩ := hok b _ z
        obtain ⟨e2, _⟩ := hok' b _ (un.frzs b ob _ z)
        rw [e] at e1
        cases e1
        exact e2
    | .error e, h => exact False.elim h
    | .ok .next, h => exact False.elim h
    | .ok .brk, h => exact False.elim h
    | .ok .cont, h => exact False.elim h
  cases hk : K.lookup a with
  | some o =>
    have e := kin a o hk
    rw [ha] at e
    cases e
    refine run (fun _ => none) (fun _ => .inl rfl) (.inr ⟨_, vs.toArray, _, hk, rfl, rfl, rfl, ?_, by simpa using rv⟩) (fun b u z => (nomatch z)) (fun b u z => (nomatch z))
    rw [List.size_toArray, hi.length]
    exact hl
  | none =>
    have at_a : ∀ b u, (if b = a then some (HO.frz { cls := .type "list", data := .seq vs.toArray } (.lst (ns.map V.int))) else none) = some u → b = a ∧ u = HO.frz { cls := .type "list", data := .seq vs.toArray } (.lst (ns.map V.int)) := fun b u z => by
      by_cases hb : b = a
      · rw [if_pos hb] at z
        exact ⟨hb, (Option.some.inj z).symm⟩
      · rw [if_neg hb] at z
        cases z
    refine run (fun b => if b = a then some (.frz { cls := .type "list", data := .seq vs.toArray } (.lst (ns.map V.int))) else none) (fun b => ?_) (.inl (.inr ⟨_, if_pos rfl⟩)) (fun b u z => ?_) fun b u z => ⟨(at_a b u z).1, hk⟩
    · by_cases hb : b = a
      · exact .inr ⟨_, _, if_pos hb⟩
      · exact .inl (if_neg hb)
    · obtain ⟨e1, e2⟩ := at_a b u z
      subst e1
      subst e2
      exact ⟨ha, by rw [List.length_map]; exact hl, vs, _, rv, ha⟩
theorem walk_g {l : PySem.W.OpenLaw} {n k : Nat} {q : Program} {loose : List Str} {XP : (Str → Option Value) → Heap → Prop} {YP : World → Heap → Prop} {d : DefRec} {K : Params → PySem.W.Frag} {sp : World → Sp} {x : Str}
    (hn : l.most = some n) (hn2 : n ≤ sizeLine) (hdf : d.params.defaults = []) (hr : Room k callerA) (hY : ∀ (w : World) (h : Heap), YP w h → (K w.params).In h)
    (F : ∀ (w : World) (mg : Str → Option Value) (fa : Addr) (h : Heap), (K w.params).In h → h.Ns mainGlobals mg → mg d.name = some (.ref fa) →
      ∃ fd : FuncData, (∀ (s : Shared) (u : Value), BindsTo s fd ⟨[u], []⟩ [(x, u)]) ∧ ∀ base : Heap, (K w.params).In base → base.Ns mainGlobals mg → FnG l.prog w (K w.params) mg base k fa fd [x] (sp w))
    (hsp : ∀ (w : World) (H : Hp) (a : Addr) (ns : List Int), ns.length ≤ n → Only H → SqL (K w.params) H a (ns.map V.int) → sp w [.ref a] H (fun v _ => v = .bl true) fun _ _ _ => False) :
    PySem.W.WalkO q loose XP YP l.row.toRowW d [] (fun f vs => PySem.call f vs) := by
  refine Att.attach_call hn hdf fun w s₀ s₁ mg mb fa o pm cd doc a vs ns G Y ho hd hcd hmg hobj hints hlen hg => ?_
  obtain ⟨fd, h1, h2⟩ := F w mg fa _ (hY w _ Y) G.T.g hmg
  exact law_g (hY w _ Y) G.T.g G.T.b G.T.builtins G.T.nolimit hg hobj hints (Nat.le_trans hlen hn2) hr h2 h1 fun H hO hS => hsp w H a ns hlen hO hS
end Tl
end S_Ru
section S_Su
namespace Tl
open PySem PySem.Spec PyProof.Rows L2
/-! ### a method of a class that begins with super().__init__(..) -/
/-- names of such a def: locals first, no cell, the class's own cell free -/
structure SuScope (N P : List Str) (sc : Scope) : Prop where
  kind : sc.kind = .function
  co : sc.isCoroutine = false
  gen : sc.isGenerator = false
  nd : N.Nodup
  pre : N.take P.length = P
  par : ∀ x ∈ P, sc.names.lookup x = some .local
  nocell : ∀ y ∈ sc.names, y.2 ≠ .cell
  free : ∀ y ∈ sc.names, y.2 = .free → y.1 = "__class__"
  cls : sc.names.lookup ("__class__" : Str) = some .free
  sup : sc.names.lookup ("super" : Str) = some .globalImplicit
/-- the context of such a def's body -/
def suCx (P : Program) (w : World) (K : PySem.W.Frag) (mg : Str → Option Value) (base : Heap) (N : List Str) (qual : Str) (scope : Scope) (f : Addr) (cd : Value) (cc : Addr) (A : Around) (outer : List Env) (s : Shared) (H : Hp) (E : XK) : Cx where
  prog := P
  w := w
  K := K
  mg := mg
  base := base
  A := A.deeper (PySem.W.ksEnv qual scope s.heap.objs.size f cd cc)
  N := N
  s_0 := s
  H_0 := H
  env := PySem.W.ksEnv qual scope s.heap.objs.size f cd cc
  outer := outer
  stack := PySem.W.ksEnv qual scope s.heap.objs.size f cd cc :: outer
  ex := []
  calm := true
  fn := fun _ => false
  pn := []
  xe := fun _ _ => False
theorem lookup_rev {ps : List Str} {us : List Value} (nd : ps.Nodup) {i : Nat} {y : Str} {u : Value} (h1 : ps[i]? = some y) (h2 : us[i]? = some u) : (ps.zip us).reverse.lookup y = some u := by
  have hm : (y, u) ∈ (ps.zip us).reverse := by
    rw [List.mem_reverse]
    refine List.mem_of_getElem? (i := i) ?_
    rw [List.getElem?_zip_eq_some]
    exact ⟨h1, h2⟩
  have key : ∀ (l : List (Str × Value)), (l.map (·.1)).Nodup → (y, u) ∈ l → l.lookup y = some u := by
    intro l
    induction l with
    | nil => intro _ h; cases h
    | cons p r ih =>
      intro hn h
      rw [List.map_cons, List.nodup_cons] at hn
      rcases List.mem_cons.mp h with e | e
      · rw [← e, List.lookup_cons, beq_self_eq_true]
      · have hne : y ≠ p.1 := fun z => hn.1 (z ▸ List.mem_map_of_mem (f := (·.1)) e)
        rw [List.lookup_cons, beq_eq_false_iff_ne.mpr hne]
        exact ih hn.2 e
  refine key _ ?_ hm
  rw [List.map_reverse]
  refine List.pairwise_reverse.mpr (List.Pairwise.imp (fun h => Ne.symm h) ?_)
  refine (nd.sublist ?_)
  clear hm key h1 h2 nd
  induction ps generalizing us with
  | nil => exact List.Sublist.refl _
  | cons p r ih =>
    cases us with
    | nil => exact List.nil_sublist _
    | cons v t => exact (ih (us := t)).cons₂ p
theorem su_start {P : Program} {w : World} {K : PySem.W.Frag} {mg : Str → Option Value} {base : Heap} {N ps : List Str} {qual : Str} {scope : Scope} {f cc D : Addr} {cd cl : Value} {cld : Option Addr} {csl : Array (Option Value)} {A : Around} {outer : List Env} {s : Shared} {h₁ : Heap} {tk : Nat} {H : Hp} {E : XK} {us : List Value} {vs : List V}
    (S : SuScope N ps scope) (hcell : K.lookup cc = some ⟨cl, cld, .cell (some (.ref D)), csl⟩) (hd : A.handled = none) (e0 : Env0 P w K mg base A outer s H) (hl : vs.length = ps.length) (r : Vals vs us)
    (hns : h₁.Ns s.heap.objs.size fun x => (ps.zip us).reverse.lookup x) (kp : ∀ b o, s.heap.get? b = some o → h₁.get? b = some o) :
    Inv (suCx P w K mg base N qual scope f cd cc A outer s H E) [] (L2.start N vs) H { s with heap := h₁, toks := tk } := by
  have hpl : ps.length ≤ N.length := by
    have := congrArg List.length S.pre
    rw [List.length_take] at this
    omega
  have hcc : base.get? cc = some ⟨cl, cld, .cell (some (.ref D)), csl⟩ := e0.mod.kin _ _ hcell
  have one : ∀ {y : Str} {c : Addr}, ([("__class__", cc)] : List (Str × Addr)).lookup y = some c → y = "__class__" ∧ c = cc := fun {y c} h => by
    rw [List.lookup_cons] at h
    split at h
    · rename_i e
      exact ⟨beq_iff_eq.mp e, (Option.some.inj h).symm⟩
    · cases h
  have noA : ∀ b : Addr, b ∉ (suCx P w K mg base N qual scope f cd cc A outer s H E).ex := fun b z => (nomatch (show b ∈ ([] : List Addr) from z))
  refine ⟨⟨e0.mod, S.kind, rfl, rfl, Nat.le_refl _, fun y z c h1 h2 => ?_, fun y hy => ?_, fun y c h => ?_, fun _ => hd, Around.frames_deeper e0.frames, .inr ⟨rfl, rfl⟩, fun b z => absurd z (noA b), e0.bs, e0.bsz, fun b _ _ => noA b, fun b z => absurd z (noA b), e0.funs, e0.frf⟩,
    rfl, e0.bare, Un.kept kp, ⟨_, hns, fun i y v h1 h2 h3 => ?_⟩, fun y c h => ?_, e0.hok.fresh (Nat.le_refl _), fun y c h => ?_, fun p hp => (nomatch (show p ∈ ([] : List (Addr × Obj)) from hp)), e0.hok.kept kp, ?_⟩
  · exact (one h1).1.trans (one h2).1.symm
  · have hy : scope.names.lookup y = some .cell ∨ scope.names.lookup y = some .free := hy
    rcases hy with hy | hy
    · exact absurd rfl (S.nocell _ (PySem.mem_of_lookup hy))
    · have e := S.free _ (PySem.mem_of_lookup hy) rfl
      have e : y = "__class__" := e
      subst e
      exact ⟨cc, rfl⟩
  · cases (show false = true from h)
  · have hi : i < vs.length := by
      apply Classical.byContradiction
      intro hi
      unfold L2.start at h2
      rw [List.getElem?_append_right (by simpa using hi), List.getElem?_replicate] at h2
      split at h2 <;> cases h2
    have ha : vs[i]? = some v := by
      unfold L2.start at h2
      rw [List.getElem?_append_left (by simpa using hi), List.getElem?_map] at h2
      cases e : vs[i]? with
      | none => rw [e] at h2; cases h2
      | some a => rw [e] at h2; cases h2; rfl
    obtain ⟨u, hu, rv⟩ := r.get ha
    have hp : ps[i]? = some y := by
      rw [← S.pre, List.getElem?_take_of_lt (by omega)]
      exact h1
    have ndP : ps.Nodup := by
      rw [← S.pre]
      exact S.nd.sublist (List.take_sublist _ _)
    exact ⟨u, rv, .inl ⟨S.par y (List.mem_of_getElem? hp), lookup_rev ndP hp hu⟩⟩
  · obtain ⟨_, e2⟩ := one h
    subst e2
    exact ⟨_, _, kp _ _ (e0.bs _ _ hcc).1, rfl⟩
  · obtain ⟨_, e2⟩ := one h
    subst e2
    exact (e0.bs _ _ hcc).2
  · unfold L2.start
    show _ = N.length
    rw [List.length_append, List.length_map, List.length_replicate]
    omega
/-- what is told of the class D's def: its own cell, its code's file, the class and the next def above it -/
structure SuFacts (P : Program) (K : PySem.W.Frag) (f f2 D C cc cda : Addr) (fd : FuncData) (self : Str) : Prop where
  look : ∃ (oc : Value) (od : Option Addr) (osl : Array (Option Value)), K.lookup f = some ⟨oc, od, .func fd, osl⟩
  head : ∃ ar, (fd.params.posonlyargs ++ fd.params.args).head? = some ar ∧ ar.arg = self
  code : ∃ (ccl : Value) (cdd : Option Addr) (vs : Array Value) (ccs : Array (Option Value)) (file : Str) (tf : Tok), K.lookup cda = some ⟨ccl, cdd, .fields vs, ccs⟩ ∧ vs[2]? = some (.str file tf) ∧ ((P.main.file : Str) == file) = true
  cell : ∃ (cl : Value) (cld : Option Addr) (csl : Array (Option Value)), K.lookup cc = some ⟨cl, cld, .cell (some (.ref D)), csl⟩
  clsD : ∃ cd, PySem.W.clsIn K D = some cd
  sub : PySem.W.mroIn K C (.ref D) = some true
  opq : PySem.W.nsIn K cStatics "thirdparty.any" = some none
  above : PySem.W.ks_superIn K C D "__init__" = some (some (.ref f2))
  ty : PySem.W.typeIn K (.ref f2) = some (.type "function")
  fi : PySem.W.fnIn K f2 = true
  top : (P.main.scope.names.lookup ("super" : Str)).isSome = false
  notC : PySem.W.clsIn K C ≠ none
section
variable {P : Program} {w : World} {K : PySem.W.Frag} {mg : Str → Option Value} {base : Heap}
/-- its promise: first what stands in the arguments, then the def above, then the rest of the body -/
theorem fn_super {f f2 D C cc cda : Addr} {name qual : Str} {params : Arguments} {scope : Scope} {dV kV doc pm ct : Value} {an : Option Addr} {N ps : List Str} {self : Str} {k : Nat} {sp sp2 : Sp} {e1 : Expr} {es : List Expr} {rest : List Stmt} {p0 p1 apos pos spos : Pos}
    (B : SuFacts P K f f2 D C cc cda (PySem.W.ksFn name qual params (.Expr (.Call (.Attribute (.Call (.Name "super" p0) [] [] p1) "__init__" apos) (e1 :: es) [] pos) spos :: rest) scope dV kV doc pm an (.ref cda) ct cc) self)
    (hcd : PySem.W.codeIn K (.ref cda) qual = true) (S : SuScope N ps scope) (h0 : ps[0]? = some self) (ms : mg "super" = none)
    (F2 : FnR P w K mg base CX0 k f2 sp2) (len : ∀ {vs H Q E}, sp vs H Q E → vs.length = ps.length)
    (hbody : ∀ (A : Around) (outer : List Env) (s : Shared) (H : Hp) (vs : List V) (Q : VK) (E : XK), Room k (A.deeper (PySem.W.ksEnv qual scope s.heap.objs.size f (.ref cda) cc)) → sp vs H Q E →
      ∃ ta t x dx fs, PA (suCx P w K mg base N qual scope f (.ref cda) cc A outer s H E) (e1 :: es) ta ∧ PSs (suCx P w K mg base N qual scope f (.ref cda) cc A outer s H E) rest t ∧ vs[0]? = some (.ref x) ∧ H x = some (.ins C dx fs) ∧
        ∀ q, H q = none → ta (L2.start N vs) (upd H q (.met f2 x)) fun us H1 => H1 q = some (.met f2 x) ∧ sp2 (.ref x :: us) H1 (fun _ H2 => t { nx := fun _ H' => Q .non H', rt := Q } (L2.start N vs) H2) E0)
    {pl : Sem Bool} (hev : ∀ env : Env, eval (.Call (.Attribute (.Call (.Name "super" p0) [] [] p1) "__init__" apos) (e1 :: es) [] pos) env = (do
      let ov ← attributeBase (.Call (.Name "super" p0) [] [] p1) "__init__" env (eval (.Call (.Name "super" p0) [] [] p1) env)
      standAt apos.atName
      let (f, first) ← holding [ov] (getMethod ov "__init__" pl)
      callWith pos f first (backTo pos (starEach (e1 :: es) env)) []))
    (hsw : ∀ env : Env, swapsWith (.Call (.Attribute (.Call (.Name "super" p0) [] [] p1) "__init__" apos) (e1 :: es) [] pos) none spos.line env = pure false)
    (hst : ∀ env : Env, starEach (e1 :: es) env = (false, eval e1 env) :: starEach es env) (hpl : ∀ env : Env, ((backTo pos (starEach (e1 :: es) env)).any (·.1) || (backToKw pos (keywordEach [] env)).any (·.1.isNone)) = false) :
    FnOk P w K mg base CX0 (k + 1) f (PySem.W.ksFn name qual params (.Expr (.Call (.Attribute (.Call (.Name "super" p0) [] [] p1) "__init__" apos) (e1 :: es) [] pos) spos :: rest) scope dV kV doc pm an (.ref cda) ct cc) ps sp := by
  obtain ⟨⟨oc, od, osl, lk⟩, ⟨ar, har, hself⟩, ⟨ccl, cdd, cvs, ccs, file, tf, lkc, hvs, hfile⟩, ⟨cl, cld, csl, lkcell⟩, ⟨cdD, hclsD⟩, hsub, hopq, habove, hty, hfi, htop, hnotC⟩ := B
  refine ⟨fun _ _ _ _ h => len h, fun A outer s H args us vs Q E hr e0 hb r hsp => ?_⟩
  have kin : K.In s.heap := e0.mod.kin.keeps fun b o e => (e0.bs b o e).1
  have nl : s.heap.NoLimit := e0.mod.nolimit.keeps fun b o e => (e0.bs b o e).1
  have hl := len hsp
  refine ks_codeAny_call_defAt (fd := PySem.W.ksFn name qual params _ scope dV kV doc pm an (.ref cda) ct cc) (binds := ps.zip us) hr.depth (kin _ _ lk) rfl nl (PySem.W.codeRec_of kin hcd) rfl hb (fun y hy => S.nocell y hy) (fun y hy => S.par y.1 (List.of_mem_zip (a := y.1) (b := y.2) hy).1) (fun h₁ hns kp => ?_) S.co S.gen S.kind
  obtain ⟨ta, t, x, dx, fs, ha, ht, hx0, hx, hq⟩ := hbody A outer s H vs Q E (hr.deeper _) hsp
  have I : Inv (suCx P w K mg base N qual scope f (.ref cda) cc A outer s H E) [] (L2.start N vs) H { s with heap := h₁, toks := s.toks + (ps.zip us).length } := su_start S lkcell hr.hd e0 hl r hns kp
  have kin1 : K.In h₁ := I.kIn
  obtain ⟨oD, hD1, hD2⟩ : ∃ oD, h₁.get? D = some oD ∧ oD.data = .cls cdD := by
    unfold PySem.W.clsIn at hclsD
    split at hclsD
    · rename_i ho
      cases hclsD
      exact ⟨_, kin1 _ _ ho, rfl⟩
    · cases hclsD
  obtain ⟨mA, O, _⟩ := ins_get I.hok hx
  obtain ⟨u0, hu0, ru0⟩ := r.get hx0
  cases (show u0 = Value.ref x from ru0)
  have hsv : (ps.zip us).reverse.lookup ar.arg = some (.ref x) := by
    rw [hself]
    refine lookup_rev ?_ h0 hu0
    rw [← S.pre]
    exact S.nd.sublist (List.take_sublist _ _)
  have hsl : scope.names.lookup ar.arg = some .local := by
    rw [hself]
    exact S.par _ (List.mem_of_getElem? h0)
  have hxC : x ≠ C := by
    intro e
    cases hcl : PySem.W.clsIn K C with
    | none => exact hnotC hcl
    | some cdC =>
      unfold PySem.W.clsIn at hcl
      split at hcl
      · rename_i ho
        have e2 := kin1 _ _ ho
        rw [← e, O.obj] at e2
        cases e2
      · cases hcl
  obtain ⟨mb, hnb, hbb⟩ := I.ok.mod.blt
  refine ks_wpAt_execs_cons (ks_wpAt_Expr_any (ks_wpAt_MethodCall (pl := pl) (ks_wpAt_super_base (env := PySem.W.ksEnv qual scope s.heap.objs.size f (.ref cda) cc) S.sup S.cls (by decide) rfl (kin1 _ _ lk) rfl har rfl (kin1 _ _ lkc) rfl hvs hfile htop ?_) (hev _)) I.quiet (hsw _))
  refine PySem.W.ks_loadName_global S.kind S.sup (PySem.Calls.loadGlobal_builtin (env := PySem.W.ksEnv qual scope s.heap.objs.size f (.ref cda) cc) (I.ok.mod.glob.keeps I.bk) ms (hnb.keeps I.bk) ((hbb _ (by decide +kernel)).trans (by decide +kernel)) ⟨rfl, ?_⟩)
  refine wpAny_loadName_free S.kind S.cls rfl ⟨_, kin1 _ _ lkcell, rfl⟩ ?_
  refine wpAny_loadName_local S.kind hsl hns hsv ?_
  refine ks_wpAny_isType_cls hD1 hD2 ⟨rfl, ?_⟩
  refine ks_wpAny_call_super hD1 hD2 O.obj rfl (fun c e => by cases e) (PySem.W.looks_mroIn kin1 hsub) (fun h2 e2 k2 => ?_)
  have I2 := I.kept (t' := s.toks + (ps.zip us).length) k2
  have kin2 : K.In h2 := I2.kIn
  obtain ⟨of, hof, hofc⟩ : ∃ of, h2.get? f2 = some of ∧ of.cls = .type "function" := by
    have ht' : (K.lookup f2).map (·.cls) = some (.type "function") := hty
    cases z : K.lookup f2 with
    | none => rw [z] at ht'; cases ht'
    | some of => rw [z] at ht'; exact ⟨of, kin2 _ _ z, Option.some.inj ht'⟩
  cases hcl : PySem.W.clsIn K C with
  | none => exact absurd hcl hnotC
  | some cdC =>
    unfold PySem.W.ks_superIn at habove
    rw [hcl] at habove
    refine ks_wpAny_getMethod_super e2 (PySem.W.looks_opaque kin2 hopq) (l₀ := cdC.mro) (fun A Q E s k q => wpAny_bind ((PySem.W.looks_clsIn kin2 hcl) A _ E s k (wpAny_pure q))) rfl kin2 habove hof hofc hxC (by decide) ?_
    have hfree : H h2.objs.size = none := I2.hok.fresh (Nat.le_refl _)
    have I3 := I2.laid (a := h2.objs.size) (o := .met f2 x) (h' := h2.push { cls := .type "method", data := .fields #[.ref f2, .ref x] }) (t' := s.toks + (ps.zip us).length + 1) (fun b u e => Heap.get?_push_of_some _ e) (Nat.le_refl _) (Heap.get?_push_size _ rfl)
    have hx3 := hq _ hfree
    refine callwith_met (X := suCx P w K mg base N qual scope f (.ref cda) cc A outer s H E) (a := x) (hpl _) hfi ?_
    rw [hst]
    refine Calls.evalArgs_plain ?_
    have hrun := ha.run pos [] _ (L2.start N vs) _ _ I3 hx3
    rw [hst] at hrun
    refine wpAny_mono hrun (fun us4 s4 h4 => ?_) fun _ _ z => z.elim
    obtain ⟨vs4, H4, I4, rv4, hm4, hsp4⟩ := h4
    have hr4 : Room k (suCx P w K mg base N qual scope f (.ref cda) cc A outer s H E).A := hr.deeper _
    refine ⟨met_P I4 hm4, wpAny_call (PySem.W.method_call (met_P I4 hm4).1 (codeAny_mono (run_fnR (X := suCx P w K mg base N qual scope f (.ref cda) cc A outer s H E) (vs := V.ref x :: vs4) (us := Value.ref x :: us4) F2 hr4 pass0 I4 (.cons rfl rv4) hsp4) fun r5 s5 h5 => ?_))⟩
    match r5, h5 with
    | .ok (.ret u), h5 =>
      obtain ⟨v5, H5, I5, _, q5⟩ := h5
      refine wpAt_of_wpAny (wpAny_mono (ht.run [] s5 _ H5 _ I5 q5) (fun fl s' hs => ?_) fun _ _ z => z.elim)
      cases fl with
      | ret u =>
        obtain ⟨v, σ', H', J, rv, q⟩ := hs
        exact ⟨v, H', J.os, J.bare, J.base, J.hok, rv, q⟩
      | next =>
        obtain ⟨σ', H', J, q⟩ := hs
        exact ⟨.non, H', J.os, J.bare, J.base, J.hok, rfl, q⟩
      | brk => exact hs.elim fun _ h => h.elim fun _ h => h.2.elim
      | cont => exact hs.elim fun _ h => h.elim fun _ h => h.2.elim
    | .error e, h5 => exact False.elim h5
    | .ok .next, h5 => exact False.elim h5
    | .ok .brk, h5 => exact False.elim h5
    | .ok .cont, h5 => exact False.elim h5
end
end Tl
end S_Su
section S_Bo
namespace Tl
open PySem PySem.Spec PyProof.Rows L2
theorem plain_bool_new : plainId "bool.__new__" = true := by decide +kernel
section
variable {P : Program} {w : World} {A : Around} {E : Value → Shared → Prop} {s : Shared}
theorem code_bool_new {v : Value} {Q₁ : Value → Shared → Prop} (h : wpAny (model P w) A.in1 (truthy v) (fun b s' => Q₁ (.bool b) s') E s) :
    codeAny (model P w) A (.call (.builtin "bool.__new__") ⟨[.type "bool", v], []⟩) (wants Q₁ E) s := by
  refine codeAny_of_tree ?_
  show wpAny _ A.in1 (do checkBuiltinCall "bool.__new__" ⟨[.type "bool", v], []⟩; again (.builtin "bool.__new__" ⟨[.type "bool", v], []⟩)) _ _ s
  refine wpAny_bind (wpAny_of_eq (F.newCall_bool_1 v) (wpAny_pure ⟨plainId_quiet plain_bool_new _, codeAny_builtin F.entry_bool_new ?_⟩))
  rw [Around.under_plainId plain_bool_new _]
  unfold Builtin.«bool.__new__»
  have f1 := F.conv_sub_bool
  obtain ⟨hp, g, d, tk, os⟩ := s
  wp_walk
  show wpAny (model P w) A.in1 (truthy v) _ _ _
  exact wpAny_mono h (fun b s' hb => wpAny_pure hb) fun _ _ e => e
/-- bool(v), by what truth gives -/
theorem call_bool_by {v : Value} {Q : Value → Shared → Prop} (h : wpAny (model P w) A.in1.in1 (truthy v) (fun b s' => Q (.bool b) s') E s) : wpAny (model P w) A (call (.type "bool") [v]) Q E s := by
  refine callType_codes (Q₁ := fun obj s₁ => (∃ b, obj = .bool b) ∧ Q obj s₁) F.called_bool (F.typeCall_bool_1 v) F.entry_object_init (code_bool_new (wpAny_mono h (fun b s' hb => ⟨⟨b, rfl⟩, hb⟩) fun _ _ e => e)) fun obj s₁ hq => ?_
  obtain ⟨⟨b, rfl⟩, hq⟩ := hq
  exact ⟨PySem.typeIs_bool _ _, F.args_object_init_2 _ v, object_init_meets F.called_bool.init.lookup F.called_bool.made F.newNe_bool P w A.in1 _ s₁ ⟨PySem.typeIs_bool _ _, rfl, hq⟩⟩
end
/-- bool(o) of an instance whose class has its own __bool__ at f -/
theorem call_boolO {X : Cx} {CX : CXT} {k : Nat} {C f : Addr} {fd : FuncData} {ps : List Str} {sp : Sp} {E : XK} (F : FnOk X.prog X.w X.K X.mg X.base CX k f fd ps sp) (hr : Room (k + 2) X.A) (hb : Binds X.K fd ps []) (hx : Passes CX X E)
    (hs : PySem.W.findIn X.K (.ref C) "__bool__" = some (some (.ref f))) (hf : PySem.W.isFn X.K (.ref f) = true) :
    CallR X (.type "bool") (fun xs H Q => ∃ a dx fs, xs = [.ref a] ∧ H a = some (.ins C dx fs) ∧ sp [.ref a] H (fun v H1 => ∃ b, v = .bl b ∧ Q (.bl b) H1) E) := by
  intro pins s σ H xs us Q I r h
  obtain ⟨a, dx, fs, rfl, ha, hsp⟩ := h
  obtain rfl := Vals.ref1 r
  obtain ⟨mA, O, _⟩ := ins_get I.hok ha
  obtain ⟨od, J, _⟩ := O.look
  obtain ⟨m, hF⟩ := I.fr
  refine call_bool_by (PySem.W.truthy_K hF I.ok.mod.kin J hs hf ?_)
  have hl := F.len _ _ _ _ hsp
  have r2 : Vals [V.ref a] [Value.ref a] := .cons rfl .nil
  refine wpAny_call (codeAny_mono (F.run X.A.in1.in1 X.stack s H ⟨[.ref a], []⟩ [.ref a] [.ref a] _ E hr.in1.in1 I.env0.in1.in1 (by
    have := hb s [.ref a] I.kIn (by simpa using hl)
    simpa using this) r2 hsp) fun r s' hq => ?_)
  match r, hq with
  | .error e, hq => exact hx pins σ H s e s' I hq
  | .ok (.ret u), hq =>
    obtain ⟨z, H', I', rz, b, ez, q⟩ := I.after hq
    subst ez
    cases rz
    exact ⟨.bl b, H', I', rfl, q⟩
  | .ok .next, hq => exact False.elim hq
  | .ok .brk, hq => exact False.elim hq
  | .ok .cont, hq => exact False.elim hq
end Tl
end S_Bo
section S_Zp
namespace Tl
open PySem PySem.Spec PyProof.Rows L2
/-! ### dict(zip(t, u)) of two tuples -/
/-- what one asks of an iterator at i: it gives v, from S to S'; it ends in S -/
abbrev Gives1 (P : Program) (w : World) (i : Addr) (v : Value) (S S' : Heap → Prop) : Prop := ∀ (A : Around) (E : Value → Shared → Prop) (s : Shared) (Q : Value → Shared → Prop), S s.heap →
  (∀ h', S' h' → Heap.SameBut i s.heap h' → Q v { s with heap := h' }) → wpAny (model P w) A (Builtin.SmallTypes.nextOf (.ref i)) Q E s
abbrev Ends1 (P : Program) (w : World) (i : Addr) (S : Heap → Prop) : Prop := ∀ (A : Around) (E : Value → Shared → Prop) (s : Shared) (Q : Value → Shared → Prop), A.handled = none → S s.heap →
  (∀ h' e, Heap.ExtBut i s.heap h' → (∃ o, h'.get? e = some o ∧ o.cls = .type "StopIteration") → E (.ref e) { s with heap := h' }) → wpAny (model P w) A (Builtin.SmallTypes.nextOf (.ref i)) Q E s
/-- it stays where one object alone changes -/
abbrev Off (b : Addr) (S : Heap → Prop) : Prop := ∀ h h', Heap.SameBut b h h' → S h → S h'
section
variable {P : Program} {w : World} {A : Around} {E : Value → Shared → Prop} {s : Shared}
theorem held_item {z TI TO T i1 i2 : Addr} {f : Bool} {oT : Obj} {x y : Value} {S1 S1' S2 S2' : Heap → Prop} {Q : Value → Shared → Prop} (hz : IsZipHeld s.heap z TI TO T f) (hT : s.heap.get? T = some oT) (hTI : IsPair s.heap TI (.ref i1) (.ref i2)) (z1 : i1 ≠ z) (z2 : i2 ≠ z)
    (n1 : Gives1 P w i1 x S1 S1') (n2 : Gives1 P w i2 y S2 S2') (s1 : S1 s.heap) (s2 : S2 s.heap) (o1 : Off z S1) (o2 : Off z S2) (o21 : Off i1 S2) (o12 : Off i2 S1')
    (hQ : ∀ h', IsZipHeld h' z TI TO T true → S1' h' → S2' h' → h'.objs.size = s.heap.objs.size → (∀ c o, c ≠ z → c ≠ i1 → c ≠ i2 → s.heap.get? c = some o → h'.get? c = some o) →
      Q (.ref h'.objs.size) { s with heap := h'.push { cls := .type "tuple", data := .seq #[x, y] } }) :
    wpAny (model P w) A (Builtin.«zip.__next__» ⟨[.ref z], []⟩) (fun fin s' => ∃ v, fin = .done (.ret v) ∧ Q v s') E s := by
  show wpAny _ _ (field (.ref z) 2 >>= _) _ _ _
  refine wpAny_bind (wpAny_field hz rfl (x := .bool false) rfl (show wpAny _ _ (field (.ref z) 3 >>= _) _ _ _ from wpAny_bind (wpAny_field hz rfl (x := .ref TI) rfl (wpAny_bind (wpAny_seqItems hTI rfl ?_)))))
  show wpAny _ _ (Builtin.SmallTypes.ownedTupleIsFree (.ref z) >>= _) _ _ _
  refine wpAny_bind (wpAny_tupleHeld_zip hz hT fun ha hza sa => ?_)
  simp only [Bool.false_eq_true, if_false]
  refine wpAny_bind ?_
  rw [← Array.forIn_toList]
  simp only [List.forIn_cons, List.forIn_nil]
  refine wpAny_bind (wpAny_bind (wpAny_holding (show wpAny _ _ (Builtin.SmallTypes.nextOf (.ref i1) >>= _) _ _ _ from wpAny_bind (n1 _ _ { s with heap := ha } _ (o1 _ _ sa s1) fun hb sb1 sb => wpAny_pure (wpAny_pure ?_)))))
  refine wpAny_bind (wpAny_bind (wpAny_holding (show wpAny _ _ (Builtin.SmallTypes.nextOf (.ref i2) >>= _) _ _ _ from wpAny_bind (n2 _ _ { s with heap := hb } _ (o21 _ _ sb (o2 _ _ sa s2)) fun hc sc2 sc => wpAny_pure (wpAny_pure (wpAny_pure ?_))))))
  refine (show wpAny _ _ (newTuple [x, y] >>= _) _ _ _ from wpAny_bind (wpAny_newTuple (wpAny_pure ⟨_, rfl, ?_⟩)))
  exact hQ hc (sc.extBut _ _ z2.symm (sb.extBut _ _ z1.symm hza)) (o12 _ _ sc sb1) sc2 (by rw [sc.1, sb.1, sa.1]) fun c o c1 c2 c3 e => sc.extBut _ _ c3 (sb.extBut _ _ c2 (sa.extBut _ _ c1 e))
/-- the first one ends -/
theorem held_end {z TI TO T i1 i2 : Addr} {f : Bool} {oT : Obj} {S1 : Heap → Prop} {Q : Fin → Shared → Prop} (hh : A.handled = none) (hz : IsZipHeld s.heap z TI TO T f) (hT : s.heap.get? T = some oT) (hTI : IsPair s.heap TI (.ref i1) (.ref i2))
    (n1 : Ends1 P w i1 S1) (s1 : S1 s.heap) (o1 : Off z S1) (hE : ∀ h' e, (∀ c o, c ≠ z → c ≠ i1 → s.heap.get? c = some o → h'.get? c = some o) → (∃ o, h'.get? e = some o ∧ o.cls = .type "StopIteration") → E (.ref e) { s with heap := h' }) :
    wpAny (model P w) A (Builtin.«zip.__next__» ⟨[.ref z], []⟩) Q E s := by
  show wpAny _ _ (field (.ref z) 2 >>= _) _ _ _
  refine wpAny_bind (wpAny_field hz rfl (x := .bool false) rfl (show wpAny _ _ (field (.ref z) 3 >>= _) _ _ _ from wpAny_bind (wpAny_field hz rfl (x := .ref TI) rfl (wpAny_bind (wpAny_seqItems hTI rfl ?_)))))
  show wpAny _ _ (Builtin.SmallTypes.ownedTupleIsFree (.ref z) >>= _) _ _ _
  refine wpAny_bind (wpAny_tupleHeld_zip hz hT fun ha hza sa => ?_)
  simp only [Bool.false_eq_true, if_false]
  refine wpAny_bind ?_
  rw [← Array.forIn_toList]
  simp only [List.forIn_cons, List.forIn_nil]
  refine wpAny_bind (wpAny_bind (wpAny_holding (show wpAny _ _ (Builtin.SmallTypes.nextOf (.ref i1) >>= _) _ _ _ from wpAny_bind (n1 _ _ { s with heap := ha } _ hh (o1 _ _ sa s1) fun hb e sb he => ?_))))
  exact hE hb e (fun c o c1 c2 q => sb _ _ c2 (sa.extBut _ _ c1 q)) he
theorem next_by {z : Addr} {Q : Option Value → Shared → Prop} (hTy : s.TypeIs (.ref z) "zip") (h : wpAny (model P w) A.in1 (Builtin.«zip.__next__» ⟨[.ref z], []⟩) (fun fin s' => ∃ v, fin = .done (.ret v) ∧ Q (some v) s') (fun e s' => (∃ a o, e = .ref a ∧ s'.heap.get? a = some o ∧ o.cls = .type "StopIteration") ∧ Q none s') s) :
    wpAny (model P w) A (pyNext (.ref z)) Q E s := by
  unfold pyNext
  refine wpAny_bind (wpAny_attempt (wpAny_callSpecial?_slot (name := Str.ofString "__next__") hTy F.slot_zip_next (wpAny_call_entry F.slot_zip_next hTy F.entry_zip_next (wpAny_mono h (fun fin s' hf => ?_) fun e s' he => ?_) (F.args_zip_next_1 _))))
  · obtain ⟨v, rfl, hq⟩ := hf
    exact ⟨v, rfl, wpAny_pure hq⟩
  · obtain ⟨⟨a, o, rfl, ho, hc⟩, hq⟩ := he
    exact wpAny_bind (wpAny_isInstance (T := "StopIteration") (b := true) ⟨o, ho, hc⟩ isSubtype_stop (wpAny_pure hq))
end
/-- such an iterator of a tuple -/
abbrev TI1 (i l : Addr) (xs : Array Value) (k : Nat) (h : Heap) : Prop := h.IsTupleIter i l k ∧ h.IsTuple l xs
theorem ti_gives {P : Program} {w : World} {i l : Addr} {xs : Array Value} {k : Nat} {v : Value} (hne : l ≠ i) (hv : xs[k]? = some v) : Gives1 P w i v (TI1 i l xs k) (TI1 i l xs (k + 1)) := fun A E s Q hs hq =>
  RZ.nextOf_tuple_item hs.1 hs.2 hv fun h' a b => hq h' ⟨a, hs.2.extBut b.extBut hne⟩ b
theorem ti_ends {P : Program} {w : World} {i l : Addr} {xs : Array Value} {k : Nat} (hv : xs[k]? = none) : Ends1 P w i (TI1 i l xs k) := fun A E s Q hh hs hq => RZ.nextOf_tuple_end hh hs.1 hs.2 hv hq
theorem ti_off {b i l : Addr} {xs : Array Value} {k : Nat} (h1 : i ≠ b) (h2 : l ≠ b) : Off b (TI1 i l xs k) := fun h h' sb hs => ⟨hs.1.extBut sb.extBut h1, hs.2.extBut sb.extBut h2⟩
theorem ti_at {i l : Addr} {xs : Array Value} {k : Nat} {h h' : Heap} (hs : TI1 i l xs k h) (h1 : ∀ o, h.get? i = some o → h'.get? i = some o) (h2 : ∀ o, h.get? l = some o → h'.get? l = some o) : TI1 i l xs k h' := ⟨hs.1.at h1, hs.2.at h2⟩
/-- what stands where the zip of two tuples was made -/
def ZOk (z TI TO i1 i2 l1 l2 : Addr) (xs ys : Array Value) (h : Heap) : Prop := IsZip h z TI TO .none ∧ IsPair h TI (.ref i1) (.ref i2) ∧ (∃ a b, IsPair h TO a b) ∧ TI1 i1 l1 xs 0 h ∧ TI1 i2 l2 ys 0 h
/-- what stands at turn k, while a dict is filled at d -/
def ZSt (z TI TO i1 i2 l1 l2 : Addr) (xs ys : Array Value) (d : Addr) (k : Nat) (h : Heap) : Prop := IsPair h TI (.ref i1) (.ref i2) ∧ TI1 i1 l1 xs k h ∧ TI1 i2 l2 ys k h ∧
  ((IsZip h z TI TO .none ∧ ∃ a b, IsPair h TO a b) ∨ ∃ T f oT, IsZipHeld h z TI TO T f ∧ h.get? T = some oT ∧ T ≠ z ∧ T ≠ i1 ∧ T ≠ i2 ∧ T ≠ d)
theorem pair_arg_zip {P : Program} {w : World} {z TI TO i1 i2 l1 l2 : Addr} (D : ZipApart z TI TO i1 i2 l1 l2) {xs ys : Array Value} (hsz : ys.size = xs.size) :
    PairArg P w "zip" z [z, TI, TO, i1, i2, l1, l2] [z, TO, i1, i2] xs.size (fun i k v => xs[i]? = some k ∧ ys[i]? = some v) (ZOk z TI TO i1 i2 l1 l2 xs ys) := by
  refine { type := fun s ok => ⟨_, ok.1, rfl⟩, notDict := by decide, keep := fun h h' ok hk => ?_, there := fun h ok b hb => ?_, sub := fun b hb => ?_, noKeys := fun A s Q E hA ok h => getAttrOr_miss_zip ok.1 rfl rfl rfl zip_no_keys (by decide +kernel) hA h, iter := fun A s d Q E hA ok hd hdf h => ?_ }
  · obtain ⟨a1, a2, ⟨x, y, a3⟩, a4, a5⟩ := ok
    exact ⟨hk _ _ a1, hk _ _ a2, ⟨x, y, hk _ _ a3⟩, ti_at a4 (fun o => hk _ o) (fun o => hk _ o), ti_at a5 (fun o => hk _ o) fun o => hk _ o⟩
  · obtain ⟨a1, a2, ⟨x, y, a3⟩, ⟨⟨o1, b1, _⟩, ⟨o2, b2, _⟩⟩, ⟨⟨o3, b3, _⟩, ⟨o4, b4, _⟩⟩⟩ := ok
    simp only [List.mem_cons, List.not_mem_nil, or_false] at hb
    rcases hb with e | e | e | e | e | e | e <;> subst e <;> first | exact ⟨_, a1⟩ | exact ⟨_, a2⟩ | exact ⟨_, a3⟩ | exact ⟨_, b1⟩ | exact ⟨_, b2⟩ | exact ⟨_, b3⟩ | exact ⟨_, b4⟩
  · simp only [List.mem_cons, List.not_mem_nil, or_false] at hb ⊢
    rcases hb with e | e | e | e <;> simp [e]
  · obtain ⟨a1, a2, a3, a4, a5⟩ := ok
    simp only [List.mem_cons, List.not_mem_nil, or_false, not_or] at hdf
    obtain ⟨dz, dTI, dTO, di1, di2, dl1, dl2⟩ := hdf
    refine wpAny_pyIter_zip a1 (h z [z, TO, i1, i2] (ZSt z TI TO i1 i2 l1 l2 xs ys d) s.heap s.toks ?_ ⟨a2, a4, a5, .inl ⟨a1, a3⟩⟩ (fun _ _ e => e) fun b hb => .inl hb)
    refine { off := fun hm => ?_, frame := fun i g g' st hk => ?_, item := fun i s1 Q1 E1 hi st hds hQ => ?_, done := fun s1 Q1 E1 st hQ => ?_ }
    · simp only [List.mem_cons, List.not_mem_nil, or_false] at hm
      rcases hm with e | e | e | e
      · exact dz e
      · exact dTO e
      · exact di1 e
      · exact di2 e
    · obtain ⟨b1, b2, b3, b4⟩ := st
      refine ⟨hk _ _ (Ne.symm dTI) b1, ti_at b2 (fun o => hk _ o (Ne.symm di1)) (fun o => hk _ o (Ne.symm dl1)), ti_at b3 (fun o => hk _ o (Ne.symm di2)) (fun o => hk _ o (Ne.symm dl2)), ?_⟩
      rcases b4 with ⟨c1, x, y, c2⟩ | ⟨T, f, oT, c1, c2, c3, c4, c5, c6⟩
      · exact .inl ⟨hk _ _ (Ne.symm dz) c1, x, y, hk _ _ (Ne.symm dTO) c2⟩
      · exact .inr ⟨T, f, oT, hk _ _ (Ne.symm dz) c1, hk _ _ c6 c2, c3, c4, c5, c6⟩
    · obtain ⟨b1, b2, b3, b4⟩ := st
      have ex := Array.getElem?_eq_getElem (xs := xs) hi
      have ey := Array.getElem?_eq_getElem (xs := ys) (i := i) (by omega)
      have lt : ∀ {c : Addr} {o : Obj}, s1.heap.get? c = some o → s1.heap.objs.size ≠ c := fun e => Nat.ne_of_gt (Heap.lt_size e)
      have m1 : s1.heap.objs.size ≠ i1 := b2.1.elim fun _ e => lt e.1
      have m2 : s1.heap.objs.size ≠ i2 := b3.1.elim fun _ e => lt e.1
      rcases b4 with ⟨c1, x, y, c2⟩ | ⟨T, f, oT, c1, c2, c3, c4, c5, c6⟩
      · refine RZ.pyNext_zipT_item D c1 b1 c2 b2.1 b3.1 b2.2 b3.2 ex ey fun g' e1 e2 e3 e4 e5 _ hk => ?_
        refine hQ s1.heap.objs.size _ _ g' s1.toks ⟨ex, ey⟩ (.inl ⟨_, e5, rfl, _, rfl⟩) ⟨hk _ _ D.TIz D.TITO D.TIi1 D.TIi2 b1, ⟨e3, b2.2.at fun o => hk _ o D.l1z D.l1TO D.l1i1 D.l1i2⟩, ⟨e4, b3.2.at fun o => hk _ o D.l2z D.l2TO D.l2i1 D.l2i2⟩, .inr ⟨s1.heap.objs.size, false, _, e1, e5, lt c1, m1, m2, Nat.ne_of_gt hds⟩⟩ fun c o hc e => ?_
        simp only [List.mem_cons, List.not_mem_nil, or_false, not_or] at hc
        exact hk c o hc.1 hc.2.1 hc.2.2.1 hc.2.2.2 e
      · refine next_by ⟨_, c1, rfl⟩ (wpAny_mono (held_item c1 c2 b1 D.i1z D.i2z (ti_gives D.l1i1 ex) (ti_gives D.l2i2 ey) b2 b3 (ti_off D.i1z D.l1z) (ti_off D.i2z D.l2z) (ti_off D.i12.symm D.l2i1) (ti_off D.i12 D.l1i2) fun g' e1 e2 e3 e4 hk => ?_) (fun _ _ q => q) fun _ _ q => q)
        have up : ∀ (c : Addr) (o : Obj), g'.get? c = some o → (g'.push { cls := .type "tuple", data := .seq #[xs[i], ys[i]] }).get? c = some o := fun c o e => Heap.get?_push_of_some _ e
        refine hQ g'.objs.size _ _ _ s1.toks ⟨ex, ey⟩ (.inl ⟨_, Heap.get?_push_size _ rfl, rfl, _, rfl⟩) ⟨up _ _ (hk _ _ D.TIz D.TIi1 D.TIi2 b1), ti_at e2 (up _) (up _), ti_at e3 (up _) (up _), .inr ⟨T, true, oT, up _ _ e1, up _ _ (hk _ _ c3 c4 c5 c2), c3, c4, c5, c6⟩⟩ fun c o hc e => ?_
        simp only [List.mem_cons, List.not_mem_nil, or_false, not_or] at hc
        exact up _ _ (hk c o hc.1 hc.2.2.1 hc.2.2.2 e)
    · obtain ⟨b1, b2, b3, b4⟩ := st
      have ex : xs[xs.size]? = none := Array.getElem?_eq_none (Nat.le_refl _)
      rcases b4 with ⟨c1, x, y, c2⟩ | ⟨T, f, oT, c1, c2, c3, c4, c5, c6⟩
      · refine RZ.pyNext_zipT_end hA D c1 b1 c2 b2.1 b3.1 b2.2 b3.2 (.inl ex) fun g' hk => hQ g' s1.toks fun c o hc e => ?_
        simp only [List.mem_cons, List.not_mem_nil, or_false, not_or] at hc
        exact hk c o hc.1 hc.2.1 hc.2.2.1 hc.2.2.2 e
      · refine next_by ⟨_, c1, rfl⟩ (wpAny_mono (held_end (S1 := TI1 i1 l1 xs xs.size) (Q := fun _ _ => False) hA c1 c2 b1 (ti_ends ex) b2 (ti_off D.i1z D.l1z) fun g' e hk he => ?_) (fun _ _ q => q.elim) fun _ _ q => q)
        obtain ⟨o, ho, hc⟩ := he
        refine ⟨⟨e, o, rfl, ho, hc⟩, hQ g' s1.toks fun c o hc e => ?_⟩
        simp only [List.mem_cons, List.not_mem_nil, or_false, not_or] at hc
        exact hk c o hc.1 hc.2.2.1 e
end Tl
end S_Zp
section S_Ya
namespace Tl
open PySem PySem.Spec PyProof.Rows L2
/-! ### sorted(t) of a tuple of ints -/
section
variable {prog : Program} {w : World} {A : Around} {E : Value → Shared → Prop} {s : Shared}
abbrev heapL (h : Heap) (zs : List Value) : Heap := (h.push (seqObj "list" #[] 0)).update h.objs.size (Obj.mapSeq (· ++ zs.toArray))
theorem collect_tup {l : Addr} {zs : List Value} {Q : List Value → Shared → Prop} (hl : s.heap.IsTuple l zs.toArray) (hz : zs.length ≤ sizeLine)
    (h : Q zs { s with heap := heapL s.heap zs }) : wpAny (model prog w) A (collect (.ref l)) Q E s := by
  obtain ⟨ob, hob, hcl, m, hdt⟩ := id hl
  unfold collect
  refine wpAny_bind (wpAny_runValue (codeAny_builtin entry_proto_collect' ?_))
  show wpAny _ _ (do again (.builtin "list.__iadd__" ⟨[← newList [], .ref l], []⟩)) _ _ s
  refine wpAny_bind (wpAny_newList (wpAny_pure ⟨Code.quiet_builtin _ (by decide +kernel), codeAny_builtin entry_list_iadd' ?_⟩))
  show wpAny _ _ (Builtin.List.listExtendWith (.ref s.heap.objs.size) (.ref l) (.ref s.heap.objs.size)) _ _ { s with heap := s.heap.push (seqObj "list" #[] 0) }
  unfold Builtin.List.listExtendWith
  have hob' : (s.heap.push (seqObj "list" #[] 0)).get? l = some ob := Heap.get?_push_of_some _ hob
  refine wpAny_bind (wpAny_typeOf (T := "tuple") ⟨ob, hob', hcl⟩ ?_)
  have h1 : (Value.type "tuple" == Value.type "list") = false := by rfl
  have h2 : (Value.type "tuple" == Value.type "tuple") = true := by rfl
  rw [if_pos (by rw [h1, h2]; simp)]
  refine wpAny_bind (listItems_at hob' hdt ?_)
  refine wpAny_bind (listItems_at (xs := #[]) (n := 0) (Heap.get?_push_size _ rfl) rfl ?_)
  rw [if_neg (by simp)]
  refine wpAny_bind (listUpdate_at (xs := #[]) (n := 0) (Heap.get?_push_size _ rfl) rfl ?_ (Nat.zero_le _) (by
    show (#[] ++ zs.toArray).size ≤ sizeLine + 1
    simp only [Array.size_append, List.size_toArray, List.length_nil]
    omega))
  refine wpAny_pure ?_
  refine (show wpAny (model prog w) A (load s.heap.objs.size >>= _) Q E { s with heap := heapL s.heap zs } from wpAny_bind (wpAny_load (get?_update_seq (Heap.get?_push_size _ rfl) _) ?_))
  show wpAny _ _ (pure ((#[] : Array Value) ++ zs.toArray).toList) Q E _
  have e : ((#[] : Array Value) ++ zs.toArray).toList = zs := by simp
  rw [e]
  exact wpAny_pure h
theorem sorted_tup {l : Addr} {zs : List Value} {lt : Value → Value → Bool} {Q : Value → Shared → Prop} (O : SrtO.Swo lt) (hl : s.heap.IsTuple l zs.toArray) (hz : zs.length ≤ sizeLine)
    (hS : 2 ≤ zs.length → ∀ (g : Heap) (a : Addr), g.get? a = some (seqObj "list" zs.toArray 0) → (∀ b o, s.heap.get? b = some o → b ≠ a ∧ g.get? b = some o) → SrtO.SortableO prog w A.in1.in1 { s with heap := g } a zs lt)
    (h : ∀ out : List Value, SrtO.Srtd lt out → SrtO.Stb lt out zs → Q (.ref (s.heap.objs.size + 1)) { s with heap := sortedAll s.heap zs out.toArray }) :
    wpAny (model prog w) A (call (.builtin "sorted") [.ref l]) Q E s := by
  refine Calls.call_function_entry kind_sorted plain_sorted entry_sorted (args_sorted1 _) ?_
  unfold Builtin.«sorted»
  refine wpAny_bind (m := checkCount "sorted" 1 1 _) (wpAny_pure (wpAny_bind (collect_tup hl hz (wpAny_bind (wpAny_newList ?_ hz)))))
  have sz : (heapL s.heap zs).objs.size = s.heap.objs.size + 1 := by
    show ((s.heap.push (seqObj "list" #[] 0)).update s.heap.objs.size (Obj.mapSeq (· ++ zs.toArray))).objs.size = _
    rw [Heap.size_update, size_push']
  have at1 : ((heapL s.heap zs).push (seqObj "list" zs.toArray 0)).get? (s.heap.objs.size + 1) = some (seqObj "list" zs.toArray 0) := by
    rw [← sz]
    exact Heap.get?_push_size _ rfl
  have up : ∀ b o, s.heap.get? b = some o → b ≠ s.heap.objs.size + 1 ∧ ((heapL s.heap zs).push (seqObj "list" zs.toArray 0)).get? b = some o := fun b o q => by
    have lt : b < s.heap.objs.size := Heap.lt_size q
    refine ⟨Nat.ne_of_lt (Nat.lt_succ_of_lt lt), Heap.get?_push_of_some _ ?_⟩
    show ((s.heap.push (seqObj "list" #[] 0)).update s.heap.objs.size (Obj.mapSeq (· ++ zs.toArray))).get? b = some o
    rw [Heap.get?_update_ne _ _ _ _ (Nat.ne_of_lt lt)]
    exact Heap.get?_push_of_some _ q
  show wpAny _ _ _ _ _ { s with heap := (heapL s.heap zs).push (seqObj "list" zs.toArray 0) }
  rw [sz]
  refine wpAny_bind (wpAny_holding (wpAny_call_entry slot_list_sort ⟨_, at1, rfl⟩ entry_list_sort (SrtO.list_sort_ord O at1 hz (fun h2 => hS h2 _ _ at1 up) fun out a b => ⟨_, rfl, ?_⟩) (args_list_sort _)))
  exact wpAny_pure ⟨_, rfl, h out a b⟩
end
def rSortedU (K : PySem.W.Frag) : List V → Hp → VK → Prop := fun vs H Q => ∃ (a : Addr) (ns : List Int), vs = [V.ref a] ∧ (SqL K H a (ns.map V.int) ∨ SqT K H a (ns.map V.int)) ∧
  ∀ (ms : List Int) (p : Addr), ms.Perm ns → ms.Pairwise (· ≤ ·) → H p = none → Q (.ref p) (upd H p (.lst (ms.map V.int)))
/-- sorted(xs) of a list or a tuple of ints -/
theorem cr_sortedU {X : Cx} : CallR X (.builtin "sorted") (rSortedU X.K) := by
  intro pins s σ H vs us Q I r h
  obtain ⟨a, ns, rfl, hs | hs, q⟩ := h
  · exact cr_sortedI pins s σ H _ us Q I r ⟨a, ns, rfl, hs, q⟩
  · obtain ⟨its, rv, hl, hz⟩ := I.tuple hs
    rw [Vals.ref1 r]
    have hi := rv.ints
    refine sorted_tup SrtO.swo_int hl (by rw [← rv.length]; exact hz) (fun h2 g b _ _ => SrtO.ints_sortable hi h2) fun out h1 h2 => ?_
    obtain ⟨k1, k2, k3⟩ := SrtO.ints_out hi h1 h2
    obtain ⟨ep, hep⟩ := PyProof.Rows.sortedAll_at s.heap its out.toArray
    have hn : ((out.map SrtO.iv).map V.int).length ≤ sizeLine := by
      rw [List.length_map] at hz ⊢
      rw [k2.length_eq]
      exact hz
    exact ⟨.ref _, upd H (s.heap.objs.size + 1) (.lst ((out.map SrtO.iv).map V.int)), I.laid (t' := s.toks) (fun _ _ => PyProof.Rows.sortedAll_old) (Nat.le_succ _) ⟨hn, out, ep, vals_of_ints k1, hep⟩, rfl, q _ _ k2 k3 (I.hok.fresh (Nat.le_succ _))⟩
/-! ### enumerate(t) of a tuple -/
set_option maxHeartbeats 1000000 in
theorem enum_new1 {v : Value} {o : Obj} {G : Heap → Prop} (B : Begins v o G) :
    Meets (Builtin.«enumerate.__new__» ⟨[.type "enumerate", v], []⟩) (fun _ R z => G z.heap ∧
      R (.ok (.ret (.ref (z.heap.push o).objs.size))) { z with heap := (z.heap.push o).push { cls := .type "enumerate", data := .fields #[.none, .bool false, .ref z.heap.objs.size, rawInt 0, .none, .none] } }) :=
  .of_wp fun pr wo Ar R z h => by
    obtain ⟨hh, ge, dd, tt, oo⟩ := z
    obtain ⟨g1, h⟩ := h
    have sb := sub_enumerate
    have it1 : ∀ {A' : Around} {E : Value → Shared → Prop} {Q : Value → Shared → Prop}, Q (.ref hh.objs.size) ⟨hh.push o, ge, dd, tt, oo⟩ → wpAny (model pr wo) A' (pyIter v) Q E ⟨hh, ge, dd, tt, oo⟩ :=
      fun q => B.iter pr wo _ _ ⟨hh, ge, dd, tt, oo⟩ _ g1 q
    wp_walk using it1
    refine wpAny_stack_any fun st => wpAny_pure ?_
    split
    · rename_i c _ _ _ _ _
      cases (c == Value.type "enumerate") <;> (wp_walk using it1; exact ⟨_, rfl, h⟩)
    · wp_walk using it1
      exact ⟨_, rfl, h⟩
section
variable {prog : Program} {w : World} {A : Around} {E : Value → Shared → Prop} {s : Shared}
theorem enum_of {v : Value} {o : Obj} {G : Heap → Prop} {Q : Value → Shared → Prop} (B : Begins v o G) (g1 : G s.heap)
    (h : ∀ g, IsEnum g (s.heap.objs.size + 1) s.heap.objs.size 0 .none → g.get? s.heap.objs.size = some o → g.objs.size = s.heap.objs.size + 2 →
      (∀ b u, s.heap.get? b = some u → g.get? b = some u) → Q (.ref (s.heap.objs.size + 1)) { s with heap := g }) :
    wpAny (model prog w) A (call (.type "enumerate") [v]) Q E s := by
  refine callType_new F.called_enumerate (by decide) (F.typeCall_enumerate_1 _) (F.newCall_enumerate_1 _) (fun obj => F.args_object_init_2 obj _) F.entry_enumerate_new (enum_new1 B) ⟨g1, ?_⟩
  have z1 : (s.heap.push o).objs.size = s.heap.objs.size + 1 := Heap.size_push ..
  show _ ∧ _
  rw [z1]
  have he : IsEnum ((s.heap.push o).push { cls := .type "enumerate", data := .fields #[.none, .bool false, .ref s.heap.objs.size, rawInt 0, .none, .none] }) (s.heap.objs.size + 1) s.heap.objs.size 0 .none := z1 ▸ Heap.get?_push_size _ rfl
  exact ⟨⟨_, he, rfl⟩, h _ he (Heap.get?_push_of_some _ (Heap.get?_push_size _ B.free)) (by rw [Heap.size_push, z1]) fun b u x => Heap.get?_push_of_some _ (Heap.get?_push_of_some _ x)⟩
end
/-- the tuple at a as it stands at each turn, each item in a new pair -/
def IteT (K : PySem.W.Frag) (a : Addr) : It :=
  ⟨fun i H => ∃ (xs : List V) (x : V), SqT K H a xs ∧ xs[i]? = some x, fun i H v H' => ∃ T x, v = .ref T ∧ H T = none ∧ H' = upd H T (.tup [.int (i : Nat), x]) ∧ ∀ xs, SqT K H a xs → xs[i]? = some x, fun i H => ∃ xs : List V, SqT K H a xs ∧ xs.length ≤ i⟩
theorem tup_ne {h : Heap} {a b l : Addr} {k : Nat} {xs : Array Value} (p : h.IsTuple a xs) (q : h.IsTupleIter b l k) : a ≠ b := fun z => by
  obtain ⟨o, ho, hc, _⟩ := p
  obtain ⟨u, hu, hd, _⟩ := q
  rw [z, hu] at ho
  cases ho
  rw [hd] at hc
  exact absurd (Value.type.inj hc) (by decide)
theorem tup_ne2 {h : Heap} {a e it : Addr} {i : Int} {old : Value} {xs : Array Value} (p : h.IsTuple a xs) (q : IsEnum h e it i old) : a ≠ e := fun z => by
  obtain ⟨o, ho, hc, _⟩ := p
  rw [z, q] at ho
  cases ho
  exact absurd (Value.type.inj hc) (by decide)
abbrev EnT (a e it : Addr) (i : Nat) (h : Heap) : Prop := (∃ old, IsEnum h e it ((i : Nat) : Int) old) ∧ h.IsTupleIter it a i ∧ e ≠ it
theorem turn_enumT {P : Program} {w : World} {K : PySem.W.Frag} {elts : List Expr} {kk : Nat} {tpos : Pos} (a e it : Addr) : Turn P w K (.Tuple elts kk tpos) (IteT K a) [e, it] e (EnT a e it) where
  mem := List.mem_cons_self
  obj := fun i h st b hb => by
    obtain ⟨⟨old, he⟩, ⟨o, ho, hc, hd⟩, _⟩ := st
    rcases List.mem_cons.mp hb with z | z
    · rw [z]; exact ⟨_, he, fun v q => nomatch q⟩
    · rw [List.mem_singleton.mp z]; exact ⟨o, ho, fun v q => by rw [hd] at q; cases q⟩
  keep := fun i h h' st k => ⟨st.1.imp fun old he => k e (by simp) _ he, st.2.1.at fun o q => k it (by simp) o q, st.2.2⟩
  item := by
    intro X hP hw hK hc i pins s σ H E I hf st hg
    subst hP hw hK
    obtain ⟨⟨old, he⟩, hit, hne⟩ := st
    obtain ⟨xs, x, hq, hx⟩ := hg
    obtain ⟨its, rv, p, hz⟩ := I.tuple hq
    obtain ⟨u, hu, ru⟩ := rv.get hx
    have hai : a ≠ it := tup_ne p hit
    have hae : a ≠ e := tup_ne2 p he
    have le : e < s.heap.objs.size := Heap.lt_size he
    have li : it < s.heap.objs.size := by obtain ⟨_, q, _⟩ := hit; exact Heap.lt_size q
    have isz : i < its.toArray.size := by simpa using (List.getElem?_eq_some_iff.mp hu).1
    refine wpAny_pyNext_enum_itemC (Draws.tuple (show X.A.in1.handled = none from I.ok.hd hc) it a hai its.toArray) he ⟨hit, p⟩ isz hne (by simp [hne, Ne.symm hae]) fun y g tk hy ho hst hT hsz hk => ?_
    have ey : y = u := by
      rw [show its.toArray[i]? = its[i]? by simp, hu] at hy
      exact (Option.some.inj hy).symm
    subst ey
    refine ⟨_, rfl, wpAny_letOwnedTupleGo_enum (s := { s with heap := g, toks := tk + 1 }) ho fun g2 he' sb => ?_⟩
    have at2 : g2.get? s.heap.objs.size = some { cls := .type "tuple", data := .seq #[.int i tk, y] } := (sb.2 _ (Nat.ne_of_gt le)).trans hT
    have new : ObjOk X.prog X.w (upd H s.heap.objs.size (.tup [.int (i : Nat), x])) g2 s.heap.objs.size (.tup [.int (i : Nat), x]) :=
      ⟨by show 2 ≤ sizeLine; decide, [.int i tk, y], .cons ⟨_, rfl⟩ (.cons ru .nil), ⟨_, at2, rfl, _, rfl⟩⟩
    have old2 : ∀ b ob, b ∉ [e, it] → s.heap.get? b = some ob → g2.get? b = some ob := fun b ob hb q =>
      (sb.2 b fun z => hb (by simp [z])).trans (hk b ob (fun z => hb (by simp [z])) (fun z => hb (by simp [z])) q)
    have I1 : Inv X pins σ (upd H s.heap.objs.size (.tup [.int (i : Nat), x])) { s with heap := g2, toks := tk + 1 } := I.turnedNew (ch := [e, it]) old2 hf (Nat.le_refl _) new
    refine ⟨.ref s.heap.objs.size, _, I1, rfl, ⟨_, x, rfl, I.hok.fresh (Nat.le_refl _), rfl, fun ys hy => by rw [I.tuple_inj hy hq]; exact hx⟩, ⟨⟨y, ?_⟩, hst.1.at fun o q => (sb.2 it (Ne.symm hne)).trans q, hne⟩, fun b hb => ?_⟩
    · show IsEnum g2 e it ((i + 1 : Nat) : Int) y
      rw [show ((i + 1 : Nat) : Int) = (i : Int) + 1 by omega]
      exact he'
    · have lb : b < s.heap.objs.size := by
        rcases List.mem_cons.mp hb with z | z
        · rw [z]; exact le
        · rw [List.mem_singleton.mp z]; exact li
      rw [upd_ne (Nat.ne_of_lt lb)]
      exact (hf b hb).1
  done := by
    intro X hP hw hK hc i pins s σ H E I hf st hg
    subst hP hw hK
    obtain ⟨⟨old, he⟩, hit, hne⟩ := st
    obtain ⟨xs, hq, hx⟩ := hg
    obtain ⟨its, rv, p, hz⟩ := I.tuple hq
    obtain ⟨f0, f1, f2, f3, f4, f5⟩ := hf it (by simp)
    have hn := rv.length
    have hai : a ≠ it := tup_ne p hit
    have D : Draws X.prog X.w X.A.in1 it [it, a] i (fun _ _ => False) (fun j h => h.IsTupleIter it a j ∧ h.IsTuple a its.toArray ∧ j = i) :=
      { live := fun _ _ st => let ⟨o, ho, _⟩ := st.1; ⟨o, ho⟩
        frame := fun _ _ _ st hk => ⟨st.1.at fun o e => hk it (by simp) o e, st.2.1.at fun o e => hk a (by simp) o e, st.2.2⟩
        item := fun j s Q E hj st _ => absurd st.2.2 (Nat.ne_of_lt hj)
        done := fun s Q E st hE => RZ.nextOf_tuple_end (show X.A.in1.handled = none from I.ok.hd hc) st.1 st.2.1 (by simp; omega) hE }
    exact wpAny_pyNext_enum_endD D he ⟨hit, p, rfl⟩ fun g eb => ⟨rfl, I.turned (t' := s.toks) (fun b o hb q => eb b o hb q) f0 f1 f3 f4 f5⟩
  self := fun A i s Q E st h => let ⟨⟨_, he⟩, _⟩ := st; wpAny_pyIter_enum he h
def iEnumT (K : PySem.W.Frag) (ta : TA) : TI := fun σ H R => ta σ H fun vs H1 => ∃ a xs, vs = [.ref a] ∧ SqT K H1 a xs ∧ R (IteT K a) H1
theorem pi_enumT {X : Cx} {e : Expr} {ta : TA} {p pos tpos : Pos} {elts : List Expr} {kk : Nat} (hg : Gl X "enumerate") (hm : X.mg "enumerate" = none) (ha : PA X [e] ta) (hs : starEach [e] X.env = [(false, eval e X.env)] := by rfl) :
    PI X (.Tuple elts kk tpos) (.Call (.Name "enumerate" p) [e] [] pos) (iEnumT X.K ta) := by
  refine ⟨fun pins s σ H R I h => ?_⟩
  refine Call_ (ld_blt I hg hm boot_enumerate (PyProof.Rows.callWith_type1 (thn (ha.run pos pins s σ H _ I h) fun us s1 hv => ?_) hs rfl))
  obtain ⟨vs, H1, I1, r1, a, xs, rfl, hq, q⟩ := hv
  obtain rfl := Vals.ref1 r1
  obtain ⟨its, rv, p', hz⟩ := I1.tuple hq
  refine enum_of (begins_tuple a its.toArray) p' fun g he hit hsz hk => wpAny_pyIter_enum he ?_
  refine ⟨s1.heap.objs.size + 1, [s1.heap.objs.size + 1, s1.heap.objs.size], _, _, H1, rfl, I1.kept (t' := s1.toks) hk, turn_enumT a (s1.heap.objs.size + 1) s1.heap.objs.size, ⟨⟨.none, he⟩, ⟨_, hit, rfl, rfl⟩, Nat.succ_ne_self _⟩, fun b hb => ?_, q⟩
  have le : s1.heap.objs.size ≤ b := by
    rcases List.mem_cons.mp hb with z | z
    · rw [z]; exact Nat.le_add_right _ _
    · rw [List.mem_singleton.mp z]; exact Nat.le_refl _
  exact I1.fpOk le (I1.hok.fresh le)
end Tl
end S_Ya
section S_Yw
namespace Tl
open PySem PySem.Spec PyProof.Rows L2
open Evl
/-! ### walks that only lay new objects -/
/-- C holds what came between A and B -/
abbrev Since (A B C : Hp) : Prop := ∀ a o, A a = none → B a = some o → C a = some o
/-- what a for walks: n turns, told by Y, as long as what stood at H stays, and what is new -/
def EvI (wi : TI) (σ : L2.St) (H : Hp) (n : Nat) (Y : Nat → Hp → V → Hp → Prop) : Prop := ∀ H1, Ex H H1 → ∀ R : It → Hp → Prop,
  (∀ (J : It) (G : Hp → Prop) H2, Ex H1 H2 → Walk J n G Y → (∀ A, Ex H A → Since H1 H2 A → G A) → R J H2) → wi σ H1 R
/-- a value of which R holds, in each heap that has what stood at H and what is new -/
def EvN (te : TE) (σ : L2.St) (H : Hp) (R : V → Hp → Prop) : Prop := ∀ H1, Ex H H1 → ∀ Q : VK, (∀ v H2, Ex H1 H2 → (∀ H3, Ex H H3 → Since H1 H2 H3 → R v H3) → Q v H2) → te σ H1 Q
/-- a new list: what it holds is told by L -/
def EvNL (te : TE) (σ : L2.St) (H : Hp) (L : List V → Hp → Prop) : Prop := ∀ H1, Ex H H1 → ∀ Q : VK,
  (∀ p xs H2, H1 p = none → Ex H1 H2 → H2 p = some (.lst xs) → (∀ H3, Ex H H3 → (∀ a o, a ≠ p → H1 a = none → H2 a = some o → H3 a = some o) → L xs H3) → Q (.ref p) H2) → te σ H1 Q
/-- the target's stores -/
def Aims (g : TG) (n : Nat) (Y : Nat → Hp → V → Hp → Prop) (s : Nat → L2.St → L2.St) : Prop := ∀ i σ H x H', i < n → Y i H x H' → Ex H H' ∧ ∀ Q : L2.St → Hp → Prop, Q (s i σ) H' → g x σ H' Q
theorem aims_at {xs : List V} {j : Nat} : Aims (gName j) xs.length (YAt xs) (fun i σ => σ.set j (some (xs.getD i .non))) := fun i σ H x H' hi y => by
  obtain ⟨rfl, hx⟩ := y
  obtain rfl : xs.getD i .non = x := by rw [List.getD_eq_getElem?_getD, hx]; rfl
  exact ⟨Ex.refl _, fun Q q => q⟩
theorem aims_fn {f : Nat → V} {n j : Nat} : Aims (gName j) n (YFn f) (fun i σ => σ.set j (some (f i))) := fun i σ H x H' hi y => by
  obtain ⟨rfl, rfl⟩ := y
  exact ⟨Ex.refl _, fun Q q => q⟩
/-- a pair of the turn's number and the item -/
theorem aims_enum {K : PySem.W.Frag} {xs : List V} {j1 j2 : Nat} : Aims (gTup K 2 (gCons (gName j1) (gCons (gName j2) gNil))) xs.length (YPair (fun i => some (.int (i : Nat))) (fun i => xs[i]?))
    (fun i σ => (σ.set j1 (some (.int (i : Nat)))).set j2 (some (xs.getD i .non))) := fun i σ H v H' hi y => by
  obtain ⟨T, x, y, rfl, hT, rfl, h1, h2⟩ := y
  cases h1
  have h3 : xs[i]? = some y := h2
  obtain rfl : xs.getD i .non = y := by rw [List.getD_eq_getElem?_getD, h3]; rfl
  exact ⟨Ex.new hT, fun Q q => ⟨T, _, rfl, st_of upd_same, rfl, _, _, rfl, _, _, rfl, rfl, q⟩⟩
section
variable {K : PySem.W.Frag} {σ : L2.St} {H : Hp}
theorem ei_list {a : Addr} {xs : List V} {tl : TE} (h : Ev tl σ H (.ref a)) (hx : SqL K H a xs) : EvI (iList K tl) σ H xs.length (YAt xs) := fun H1 e R k =>
  h H1 e _ fun H2 e2 => ⟨a, rfl, ⟨xs, ex_l (e.trans e2) hx⟩, k _ _ H2 e2 walk_list fun A ab _ => ex_l ab hx⟩
theorem ei_listN {xs : List V} {tl : TE} (h : EvL tl σ H xs) : EvI (iList K tl) σ H xs.length (YAt xs) := fun H1 e R k =>
  h H1 e _ fun a H2 ha e2 hx => ⟨a, rfl, ⟨xs, sq_of hx⟩, k _ _ H2 e2 walk_list fun A _ ab => sq_of (ab _ _ ha hx)⟩
theorem ei_tup {a : Addr} {xs : List V} {tl : TE} (h : Ev tl σ H (.ref a)) (hx : SqT K H a xs) : EvI (iTup K tl) σ H xs.length (YAt xs) := fun H1 e R k =>
  h H1 e _ fun H2 e2 => ⟨a, rfl, ⟨xs, ex_t (e.trans e2) hx⟩, k _ _ H2 e2 walk_tup fun A ab _ => ex_t ab hx⟩
theorem walk_enumT {a : Addr} {xs : List V} : Walk (IteT K a) xs.length (fun H => SqT K H a xs) (YPair (fun i => some (.int (i : Nat))) (fun i => xs[i]?)) := by
  refine ⟨fun i _ hi q => ⟨xs, xs[i], q, by simp [hi]⟩, fun _ q => ⟨xs, q, Nat.le_refl _⟩, fun i H v H' _ q y => ?_⟩
  obtain ⟨T, x, h1, h2, h3, h4⟩ := y
  exact ⟨T, .int (i : Nat), x, h1, h2, h3, rfl, h4 xs q⟩
theorem ei_enum {a : Addr} {xs : List V} {ta : TA} (h : EvA ta σ H [.ref a]) (hx : SqL K H a xs) : EvI (iEnum K ta) σ H xs.length (YPair (fun i => some (.int (i : Nat))) (fun i => xs[i]?)) := fun H1 e R k =>
  h H1 e _ fun H2 e2 => ⟨a, xs, rfl, ex_l (e.trans e2) hx, k _ _ H2 e2 walk_enum fun A ab _ => ex_l ab hx⟩
theorem ei_enumT {a : Addr} {xs : List V} {ta : TA} (h : EvA ta σ H [.ref a]) (hx : SqT K H a xs) : EvI (iEnumT K ta) σ H xs.length (YPair (fun i => some (.int (i : Nat))) (fun i => xs[i]?)) := fun H1 e R k =>
  h H1 e _ fun H2 e2 => ⟨a, xs, rfl, ex_t (e.trans e2) hx, k _ _ H2 e2 walk_enumT fun A ab _ => ex_t ab hx⟩
theorem ei_rng1 {ta : TA} {j : Int} (h : EvA ta σ H [.int j]) (h0 : 0 ≤ j) (h1 : j ≤ 100000) : EvI (iRng1 ta) σ H j.toNat (YFn fun i => .int (0 + i)) := fun H1 e R k =>
  h H1 e _ fun H2 e2 => ⟨j, rfl, by omega, by omega, k _ _ H2 e2 walk_range fun _ _ _ => trivial⟩
theorem ei_rng2 {ta : TA} {i j : Int} (h : EvA ta σ H [.int i, .int j]) (h0 : -100000 ≤ i ∧ i ≤ 100000) (h1 : -100000 ≤ j ∧ j ≤ 100000) : EvI (iRng2 ta) σ H (j - i).toNat (YFn fun k => .int (i + k)) := fun H1 e R k =>
  h H1 e _ fun H2 e2 => ⟨i, j, rfl, ⟨by omega, by omega, by omega, by omega⟩, k _ _ H2 e2 walk_range fun _ _ _ => trivial⟩
theorem en_v {te : TE} {v : V} (h : Ev te σ H v) : EvN te σ H (fun u _ => u = v) := fun H1 e Q q => h H1 e Q fun H2 e2 => q v H2 e2 fun _ _ _ => rfl
theorem en_l {te : TE} {xs : List V} (h : EvL te σ H xs) : EvN te σ H (fun u H' => ∃ a, u = .ref a ∧ H' a = some (.lst xs)) := fun H1 e Q q => h H1 e Q fun p H2 hp e2 h2 => q _ H2 e2 fun H3 _ s => ⟨p, rfl, s _ _ hp h2⟩
theorem en_u {te : TE} {xs : List V} (h : ∀ H1, Ex H H1 → ∀ Q : VK, (∀ p H2, H1 p = none → Ex H1 H2 → H2 p = some (.tup xs) → Q (.ref p) H2) → te σ H1 Q) : EvN te σ H (fun u H' => ∃ a, u = .ref a ∧ H' a = some (.tup xs)) := fun H1 e Q q => h H1 e Q fun p H2 hp e2 h2 => q _ H2 e2 fun H3 _ s => ⟨p, rfl, s _ _ hp h2⟩
theorem en_nl {te : TE} {L : List V → Hp → Prop} (h : EvNL te σ H L) : EvN te σ H (fun u H' => ∃ a xs, u = .ref a ∧ H' a = some (.lst xs) ∧ L xs H') := fun H1 e Q q => h H1 e Q fun p xs H2 hp e2 h2 hL => q _ H2 e2 fun H3 e3 s => ⟨p, xs, rfl, s _ _ hp h2, hL H3 e3 fun a o _ ha hb => s a o ha hb⟩
/-- what the comprehension's list holds: what R tells, turn by turn -/
def Holds (R : Nat → V → Hp → Prop) (n : Nat) (xs : List V) (H : Hp) : Prop := xs.length = n ∧ ∀ i v, xs[i]? = some v → R i v H
theorem snoc_at {xs : List V} {v u : V} {i : Nat} (h : (xs ++ [v])[i]? = some u) : (i < xs.length ∧ xs[i]? = some u) ∨ (i = xs.length ∧ v = u) := by
  rcases Nat.lt_or_ge i xs.length with hi | hi
  · rw [List.getElem?_append_left hi] at h
    exact .inl ⟨hi, h⟩
  · rw [List.getElem?_append_right hi] at h
    have e : i - xs.length = 0 := by
      have := (List.getElem?_eq_some_iff.mp h).1
      simp at this
      omega
    rw [e] at h
    cases h
    exact .inr ⟨by omega, rfl⟩
theorem en_lc {wi : TI} {g : TG} {te : TE} {vs : List Nat} {n : Nat} {Y : Nat → Hp → V → Hp → Prop} {s : Nat → L2.St → L2.St} (hw : EvI wi σ H n Y) (aim : Aims g n Y s) (hs : ∀ i, wipe (s i (wipe σ vs)) vs = wipe σ vs) (hn : n ≤ 90000)
    (R : Nat → V → Hp → Prop) (he : ∀ i, i < n → EvN te (s i (wipe σ vs)) H (R i)) : EvNL (tLc wi g tYes te vs) σ H (Holds R n) := fun H1 e Q q =>
  hw H1 e _ fun J G H2 e2 w sG D hD => lc_it w (fun i H' => Ex H2 H' ∧ ∃ acc, H' D = some (.lst acc) ∧ acc.length = i ∧ ∀ k v, acc[k]? = some v → ∀ H3, Ex H H3 → (∀ a o, a ≠ D → H1 a = none → H' a = some o → H3 a = some o) → R k v H3)
    ⟨Ex.new hD, [], upd_same, rfl, fun i v h => by simp at h⟩ (fun i H' _ p => sG H' ((e.trans e2).trans p.1) fun a o _ ha => p.1 _ _ ha)
    (fun i x A B hi p y => by
      obtain ⟨p1, acc, p3, p4, p5⟩ := p
      obtain ⟨ab, k⟩ := aim i (wipe σ vs) A x B hi y
      refine k _ ⟨hs i, ?_⟩
      show te (s i (wipe σ vs)) B _
      have hHB : Ex H B := ((e.trans e2).trans p1).trans ab
      refine he i hi B hHB _ fun v C eC hv => ⟨acc, eC _ _ (ab _ _ p3), sz_lt (by omega), ?_, acc ++ [v], upd_same, by rw [List.length_append, p4] <;> rfl, fun k u hk H3 h3 keep => ?_⟩
      · exact ((p1.trans ab).trans eC).mut hD
      · have at4 : ∀ a o, a ≠ D → H1 a = none → C a = some o → H3 a = some o := fun a o hne hn hc => keep a o hne hn (by rw [upd_ne hne]; exact hc)
        rcases snoc_at hk with ⟨hlt, hk⟩ | ⟨rfl, rfl⟩
        · exact p5 k u hk H3 h3 fun a o hne hn ha => at4 a o hne hn (eC _ _ (ab _ _ ha))
        · rw [p4]
          refine hv H3 h3 fun a o hb hc => at4 a o (fun z => ?_) (fresh_back ((e2.trans p1).trans ab) hb) hc
          rw [z, ab _ _ p3] at hb
          cases hb)
    (fun H' p => by
      obtain ⟨p1, acc, p3, p4, p5⟩ := p
      exact q D acc H' (fresh_back e2 hD) (e2.trans p1) p3 fun H3 h3 keep => ⟨p4, fun i v hv => p5 i v hv H3 h3 keep⟩)
/-- two walks, one in another: what the list holds is told by the row of b's -/
def Row2 {β : Type} (Rb : β → V → Hp → Prop) (bs : List β) (xs : List V) (H : Hp) : Prop := xs.length = bs.length ∧ ∀ (k : Nat) (b : β) (v : V), bs[k]? = some b → xs[k]? = some v → Rb b v H
def els {β : Type} (m : Nat → Nat) (f : Nat → Nat → Bool) (b : Nat → Nat → β) (i : Nat) : List β := ((List.range (m i)).filter (f i)).map (b i)
def rows {β : Type} (m : Nat → Nat) (f : Nat → Nat → Bool) (b : Nat → Nat → β) (n : Nat) : List β := (List.range n).flatMap (els m f b)
theorem rows_succ {β : Type} {m : Nat → Nat} {f : Nat → Nat → Bool} {b : Nat → Nat → β} {n : Nat} : rows m f b (n + 1) = rows m f b n ++ els m f b n := by
  unfold rows
  rw [List.range_succ, List.flatMap_append]
  simp
def part {β : Type} (f : Nat → Bool) (b : Nat → β) (j : Nat) : List β := ((List.range j).filter f).map b
theorem part_succ {β : Type} {f : Nat → Bool} {b : Nat → β} {j : Nat} : part f b (j + 1) = part f b j ++ (if f j = true then [b j] else []) := by
  unfold part
  rw [List.range_succ, List.filter_append, List.map_append]
  congr 1
  cases h : f j <;> simp [h]
theorem part_le {β : Type} {f : Nat → Bool} {b : Nat → β} {j k : Nat} (h : j ≤ k) : (part f b j).length ≤ (part f b k).length := by
  induction k with
  | zero => rw [Nat.le_zero.mp h] <;> exact Nat.le_refl _
  | succ k ih =>
    rcases Nat.lt_or_ge k j with h2 | h2
    · rw [show j = k + 1 by omega] <;> exact Nat.le_refl _
    · rw [part_succ, List.length_append]
      exact Nat.le_trans (ih h2) (Nat.le_add_right _ _)
theorem rows_le {β : Type} {m : Nat → Nat} {f : Nat → Nat → Bool} {b : Nat → Nat → β} {j k : Nat} (h : j ≤ k) : (rows m f b j).length ≤ (rows m f b k).length := by
  induction k with
  | zero => rw [Nat.le_zero.mp h] <;> exact Nat.le_refl _
  | succ k ih =>
    rcases Nat.lt_or_ge k j with h2 | h2
    · rw [show j = k + 1 by omega] <;> exact Nat.le_refl _
    · rw [rows_succ, List.length_append]
      exact Nat.le_trans (ih h2) (Nat.le_add_right _ _)
theorem en_lc2 {β : Type} {wi wi1 : TI} {g g1 : TG} {tt1 : TT} {te : TE} {vs vs1 : List Nat} {n : Nat} {m : Nat → Nat} {Y : Nat → Hp → V → Hp → Prop} {Y1 : Nat → Nat → Hp → V → Hp → Prop} {s : Nat → L2.St → L2.St} {s1 : Nat → Nat → L2.St → L2.St}
    (hw : EvI wi σ H n Y) (aim : Aims g n Y s) (hs : ∀ i, wipe (s i (wipe σ vs)) vs = wipe σ vs)
    (hw1 : ∀ i, i < n → EvI wi1 (s i (wipe σ vs)) H (m i) (Y1 i)) (aim1 : ∀ i, Aims g1 (m i) (Y1 i) (s1 i)) (hs1 : ∀ i j, wipe (s1 i j (wipe (s i (wipe σ vs)) vs1)) vs1 = wipe (s i (wipe σ vs)) vs1)
    (f : Nat → Nat → Bool) (b : Nat → Nat → β) (Rb : β → V → Hp → Prop) (ht : ∀ i j, i < n → j < m i → EvT tt1 (s1 i j (wipe (s i (wipe σ vs)) vs1)) H (f i j))
    (he : ∀ i j, i < n → j < m i → f i j = true → EvN te (s1 i j (wipe (s i (wipe σ vs)) vs1)) H (Rb (b i j))) (hz : (rows m f b n).length ≤ 90000) :
    EvNL (tLc2 wi g tYes wi1 g1 tt1 te vs vs1) σ H (Row2 Rb (rows m f b n)) := fun H1 e Q q => by
  refine hw H1 e _ fun J G H2 e2 w sG D hD => ?_
  -- what stands while ds are made
  let St : List β → Hp → Prop := fun ds H' => Ex H2 H' ∧ ∃ acc, H' D = some (.lst acc) ∧ acc.length = ds.length ∧ ∀ (k : Nat) (d : β) (v : V), ds[k]? = some d → acc[k]? = some v → ∀ H3, Ex H H3 → (∀ a o, a ≠ D → H1 a = none → H' a = some o → H3 a = some o) → Rb d v H3
  have grow : ∀ {ds : List β} {A B : Hp}, St ds A → Ex A B → St ds B := fun {ds A B} p ab => by
    obtain ⟨p1, acc, p3, p4, p5⟩ := p
    exact ⟨p1.trans ab, acc, ab _ _ p3, p4, fun k d v h1 h2 H3 h3 keep => p5 k d v h1 h2 H3 h3 fun a o hne hn ha => keep a o hne hn (ab _ _ ha)⟩
  refine ⟨fun i k H' => k = n - i ∧ i ≤ n ∧ St (rows m f b i) H', ⟨n, by simp, Nat.zero_le _, Ex.new hD, [], upd_same, rfl, fun k d v h => by simp [rows] at h⟩, ?_⟩
  rintro i k A ⟨rfl, hin, p⟩
  have gA : G A := sG A ((e.trans e2).trans p.1) fun a o _ ha => p.1 _ _ ha
  by_cases hi : i < n
  · refine .inr ⟨w.goes i A hi gA, St (rows m f b (i + 1)), fun H' p' => ⟨n - (i + 1), by omega, rfl, hi, p'⟩, fun x B yl => ?_⟩
    have y := w.yields i A x B hi gA yl
    obtain ⟨ab, k⟩ := aim i (wipe σ vs) A x B hi y
    refine k _ ⟨hs i, ?_⟩
    have pB := grow p ab
    refine hw1 i hi B (((e.trans e2).trans p.1).trans ab) _ fun J1 G1 C bC w1 sG1 => ?_
    refine ⟨fun j k H' => k = m i - j ∧ j ≤ m i ∧ St (rows m f b i ++ part (f i) (b i) j) H' ∧ Since B C H', ⟨m i, by simp, Nat.zero_le _, ?_, fun _ _ _ h => h⟩, ?_⟩
    · simpa [part] using grow pB bC
    · rintro j k H' ⟨rfl, hj, pj, sj⟩
      have gj : G1 H' := sG1 H' ((e.trans e2).trans pj.1) sj
      by_cases hlt : j < m i
      · refine .inr ⟨w1.goes j H' hlt gj, fun H4 => St (rows m f b i ++ part (f i) (b i) (j + 1)) H4 ∧ Since B C H4, fun H4 p4 => ⟨m i - (j + 1), by omega, rfl, hlt, p4⟩, fun x1 B1 y1 => ?_⟩
        obtain ⟨ab1, k1⟩ := aim1 i j (wipe (s i (wipe σ vs)) vs1) H' x1 B1 hlt (w1.yields j H' x1 B1 hlt gj y1)
        refine k1 _ ⟨hs1 i j, ?_⟩
        have pB1 := grow pj ab1
        refine ht i j hi hlt B1 ((e.trans e2).trans pB1.1) _ fun H6 e6 => ?_
        have p6 := grow pB1 e6
        have s6 : Since B C H6 := fun a o ha hc => e6 _ _ (ab1 _ _ (sj a o ha hc))
        rw [part_succ]
        cases hf : f i j with
        | false =>
          show St _ H6 ∧ Since B C H6
          rw [if_neg (by decide), List.append_nil]
          exact ⟨p6, s6⟩
        | true =>
          refine he i j hi hlt hf H6 ((e.trans e2).trans p6.1) _ fun v C6 eC hv => ?_
          obtain ⟨q1, acc, q3, q4, q5⟩ := p6
          have small : acc.length < 90000 := by
            rw [q4, List.length_append]
            have a1 : (rows m f b (i + 1)).length ≤ 90000 := Nat.le_trans (rows_le hi) hz
            rw [rows_succ, List.length_append] at a1
            have a2 : (part (f i) (b i) (j + 1)).length ≤ (els m f b i).length := part_le (f := f i) (b := b i) (show j + 1 ≤ m i from hlt)
            rw [part_succ, hf, List.length_append] at a2
            simp at a2
            omega
          refine ⟨acc, eC _ _ q3, sz_lt (by omega), ⟨(q1.trans eC).mut hD, acc ++ [v], upd_same, ?_, ?_⟩, ?_⟩
          · rw [if_pos rfl, ← List.append_assoc, List.length_append, List.length_append, q4, List.length_append]
            rfl
          · intro k d u hd hu H3 h3 keep
            have at4 : ∀ a o, a ≠ D → H1 a = none → C6 a = some o → H3 a = some o := fun a o hne hn hc => keep a o hne hn (by rw [upd_ne hne]; exact hc)
            rw [if_pos rfl, ← List.append_assoc] at hd
            rcases snoc_at hu with ⟨hlt2, hu2⟩ | ⟨rfl, rfl⟩
            · rw [q4] at hlt2
              rw [List.getElem?_append_left hlt2] at hd
              exact q5 k d u hd hu2 H3 h3 fun a o hne hn ha => at4 a o hne hn (eC _ _ ha)
            · rw [q4, List.getElem?_append_right (Nat.le_refl _), Nat.sub_self] at hd
              cases hd
              refine hv H3 h3 fun a o hb hc => at4 a o (fun z => ?_) (fresh_back (e2.trans q1) hb) hc
              rw [z, q3] at hb
              cases hb
          · intro a o ha hc
            rw [upd_ne (fun z => ?_)]
            · exact eC _ _ (s6 a o ha hc)
            · obtain ⟨acc0, r3, _⟩ := pB.2
              rw [z, r3] at ha
              cases ha
      · have ej : j = m i := by omega
        subst ej
        refine .inl ⟨w1.stops H' gj, ?_⟩
        show St (rows m f b (i + 1)) H'
        rw [rows_succ]
        exact pj
  · have ei : i = n := by omega
    subst ei
    refine .inl ⟨w.stops A gA, ?_⟩
    obtain ⟨p1, acc, p3, p4, p5⟩ := p
    exact q D acc A (fresh_back e2 hD) (e2.trans p1) p3 fun H3 h3 keep => ⟨p4, fun k d v h1 h2 => p5 k d v h1 h2 H3 h3 keep⟩
/-- the dict of the first keys, each with True -/
def dOf (kf : Nat → Int) : Nat → List (L2.Key × V)
  | 0 => []
  | i + 1 => putK (dOf kf i) (.inl (kf i)) (.bl true)
theorem dOf_len (kf : Nat → Int) : ∀ n, (dOf kf n).length ≤ n
  | 0 => Nat.le_refl _
  | n + 1 => Nat.le_trans (length_putK _ _ _) (Nat.succ_le_succ (dOf_len kf n))
theorem dOf_at (kf : Nat → Int) (x : Int) : ∀ n, (valV (dOf kf n) (.inl x)).isSome = true ↔ ∃ i, i < n ∧ kf i = x
  | 0 => ⟨fun h => (by cases h), fun ⟨i, h, _⟩ => absurd h (Nat.not_lt_zero i)⟩
  | n + 1 => by
    show (valV (putK (dOf kf n) (.inl (kf n)) (.bl true)) (.inl x)).isSome = true ↔ _
    rw [valV_put]
    by_cases e : (Sum.inl x : L2.Key) = .inl (kf n)
    · rw [if_pos e]
      exact ⟨fun _ => ⟨n, Nat.lt_succ_self n, (Sum.inl.inj e).symm⟩, fun _ => rfl⟩
    · rw [if_neg e, dOf_at kf x n]
      constructor
      · rintro ⟨i, h1, h2⟩
        exact ⟨i, Nat.lt_succ_of_lt h1, h2⟩
      · rintro ⟨i, h1, h2⟩
        refine ⟨i, Nat.lt_of_le_of_ne (Nat.le_of_lt_succ h1) fun z => ?_, h2⟩
        rw [z] at h2
        exact e (by rw [h2])
theorem en_dc {wi : TI} {g : TG} {tk tv : TE} {vs : List Nat} {n : Nat} {Y : Nat → Hp → V → Hp → Prop} {s : Nat → L2.St → L2.St} {kf : Nat → Int} (hw : EvI wi σ H n Y) (aim : Aims g n Y s) (hs : ∀ i, wipe (s i (wipe σ vs)) vs = wipe σ vs) (hn : n ≤ 90000)
    (hk : ∀ i, i < n → Ev tk (s i (wipe σ vs)) H (.int (kf i))) (hv : ∀ i, i < n → Ev tv (s i (wipe σ vs)) H (.bl true)) : EvN (tDc wi g tYes tk tv vs) σ H (fun u H' => ∃ d, u = .ref d ∧ H' d = some (.dK (dOf kf n))) := fun H1 e Q q =>
  hw H1 e _ fun J G H2 e2 w sG D hD => by
    refine ⟨fun i m H' => m = n - i ∧ i ≤ n ∧ Ex H2 H' ∧ H' D = some (.dK (dOf kf i)), ⟨n, by simp, Nat.zero_le _, Ex.new hD, upd_same⟩, ?_⟩
    rintro i m A ⟨rfl, hin, p1, p2⟩
    have gA : G A := sG A ((e.trans e2).trans p1) fun a o _ ha => p1 _ _ ha
    by_cases hi : i < n
    · refine .inr ⟨w.goes i A hi gA, fun H' => Ex H2 H' ∧ H' D = some (.dK (dOf kf (i + 1))), fun H' p' => ⟨n - (i + 1), by omega, rfl, hi, p'⟩, fun x B yl => ?_⟩
      obtain ⟨ab, k⟩ := aim i (wipe σ vs) A x B hi (w.yields i A x B hi gA yl)
      refine k _ ⟨hs i, ?_⟩
      refine hk i hi B (((e.trans e2).trans p1).trans ab) _ fun C eC => ?_
      refine hv i hi C ((((e.trans e2).trans p1).trans ab).trans eC) _ fun C2 eC2 => ?_
      have := dOf_len kf i
      exact ⟨dOf kf i, .inl (kf i), rfl, eC2 _ _ (eC _ _ (ab _ _ p2)), sz_lt (by omega), (((p1.trans ab).trans eC).trans eC2).mut hD, upd_same⟩
    · have ei : i = n := by omega
      subst ei
      refine .inl ⟨w.stops A gA, q _ A (e2.trans p1) fun H3 h3 keep => ⟨D, rfl, keep _ _ (fresh_back e2 hD) p2⟩⟩
theorem ev_din {ty td : TE} {d : Addr} {kvs : List (L2.Key × V)} {x : Int} (h1 : Ev ty σ H (.int x)) (h2 : Ev td σ H (.ref d)) (hd : H d = some (.dK kvs)) : Ev (tDIn ty td) σ H (.bl (valV kvs (.inl x)).isSome) := fun H1 e Q q =>
  h1 H1 e _ fun H2 e2 => h2 H2 (e.trans e2) _ fun H3 e3 => ⟨d, _, rfl, DGet.k (k := Sum.inl x) (((e.trans e2).trans e3) _ _ hd), q H3 (e2.trans e3)⟩
end
end Tl
end S_Yw
section S_Wa
namespace Hk
open PySem PySem.Spec PyProof.Rows L2
/-! ### a caught error that is kept behind its try -/
/-- at a stands an error of the class cls, whose own dict is d -/
def ErrAt (cls : Value) (d : Option Addr) (a : Addr) : HO := .ext fun h => ∃ (oe : Obj) (vs : Array Value), h.get? a = some oe ∧ Zc cls d oe ∧ oe.data = .fields vs
section
variable {X : Cx} {pins : List (Addr × Obj)} {σ : L2.St} {H : Hp} {s : Shared}
/-- what stands at a, new since the entry, is told of from now on -/
theorem told_at {a : Addr} {oe : Obj} {vs : Array Value} {cls : Value} {d : Option Addr} (I : Inv X pins σ H s) (at_ : s.heap.get? a = some oe) (z : Zc cls d oe) (hd : oe.data = .fields vs) (na : H a = none) (n0 : X.s_0.heap.get? a = none) (nL : a ≠ X.env.locals)
    (np : ∀ p ∈ X.pn ++ pins, p.1 ≠ a) : Inv X pins σ (upd H a (ErrAt cls d a)) s where
  ok := I.ok
  os := I.os
  bare := I.bare
  base :=
    { keep := I.base.keep, slot := I.base.slot, there := I.base.there
      free := fun b o e n x => by
        have hb : b ≠ a := fun q => by rw [q, n0] at e; cases e
        rw [upd_ne hb]; exact I.base.free b o e n x
      tups := fun b xs e => by
        have q := I.base.tups b xs e
        rw [upd_ne (ne_of_none q na)]; exact q
      frzs := fun b o xs e => by
        have q := I.base.frzs b o xs e
        rw [upd_ne (ne_of_none q na)]; exact q
      tbls := fun b ps e => by
        obtain ⟨m, q⟩ := I.base.tbls b ps e
        exact ⟨m, by rw [upd_ne (ne_of_none q na)]; exact q⟩ }
  loc := I.loc
  cell := I.cell
  free := by rw [upd_ne (Ne.symm nL)]; exact I.free
  freeC := fun x c e => by
    have hb : c ≠ a := fun q => by
      obtain ⟨v, o, ho, hc⟩ := I.cell x c e
      rw [q, at_] at ho
      cases ho
      rw [hd] at hc
      cases hc
    rw [upd_ne hb]; exact I.freeC x c e
  pin := fun p hp => by
    obtain ⟨h1, h2, h3⟩ := I.pin p hp
    exact ⟨h1, by rw [upd_ne (np p hp)]; exact h2, h3⟩
  hok := fun b u e => by
    by_cases hb : b = a
    · subst hb
      rw [upd_same] at e
      cases e
      exact ⟨⟨oe, vs, at_, z, hd⟩, ⟨oe, at_⟩, fun _ _ ⟨o, v, q, r⟩ k => ⟨o, v, k o q, r⟩⟩
    · rw [upd_ne hb] at e
      exact (I.hok b u e).stay (fun _ _ _ q => q) (fun c q => by rw [upd_ne (ne_of_none q na)]; exact q) fun c xs q => by rw [upd_ne (ne_of_none q na)]; exact q
  len := I.len
/-- the wish of the body of such a try: the clause takes every error of the body; the slot i is the clause's name's -/
def wKeep (K : PySem.W.Frag) (c : Value) (i : Nat) (ts : Addr → Value → Option Addr → TS) (D : Ends) : WX := fun cls d σ H =>
  PySem.W.exmOne K cls c = some true ∧ ∀ a, H a = none → ts a cls d { nx := fun σ' H' => H' a = none → D.nx (σ'.set i none) (upd H' a (ErrAt cls d a)), rt := fun _ _ => False, bk := fun _ _ => False, ct := fun _ _ => False } (σ.set i (some (.ref a))) H
theorem ps_keep {x n : Str} {c : Value} {i : Nat} {body suite : List Stmt} {b₀ : Stmt} {np pos pos' : Pos} {tb : WX → TS} {ts : Addr → Value → Option Addr → TS}
    (hst : X.stack = X.env :: X.outer) (hf : X.env.frame = some X.env.locals) (hex : X.ex = []) (nd : X.N.Nodup) (hi : X.N[i]? = some n) (kn : X.env.kindOf n = some .local) (hc : Names X x c)
    (hb : ∀ (W : WX) (pn : List (Addr × Obj)) (xe : Value → Shared → Prop), Takes (X.tr pn xe) W → PassesOwn (model X.prog X.w) X.A X.env xe → PSs (X.tr pn xe) body (tb W))
    (hsu : ∀ (a : Addr) (oe : Obj) (cls : Value) (d : Option Addr) (pn : List (Addr × Obj)), Zc cls d oe → (∃ vs, oe.data = .fields vs) → PSs (X.suite a ((a, oe) :: pn)) (b₀ :: suite) (ts a cls d)) :
    PS X (.Try body [.ExceptHandler (some (.Name x np)) (some n) (b₀ :: suite) pos'] [] [] pos) (fun D σ H => tb (wKeep X.K c i ts D) D σ H) := by
  constructor
  intro pins s σ H D I h
  have frs_ : X.A.frames = some (X.env :: X.outer) := by rw [I.ok.frames, hst]
  have ok := I.ok
  refine wpAny_Try_except (wpAny_mono ((hb (wKeep X.K c i ts D) (X.pn ++ pins) (fun e s₁ => wpAny (model X.prog X.w) X.A (noteFrame e X.env) (fun _ s₂ => wpAny (model X.prog X.w) X.A (setFlight e none) (fun _ s₃ =>
    wpAny (model X.prog X.w) X.A (handleBy e X.env [.ExceptHandler (some (.Name x np)) (some n) (b₀ :: suite) pos']) (SP X pins D) X.xe s₃) X.xe s₂) X.xe s₁) (fun u s' air => ?_) PassesOwn.looking).run [] s σ H D (I.toTry _) h) (fun f s1 hsp => ?_) fun _ _ z => z)
  · obtain ⟨a, B, sI, pins', σ', H', cls, d, rfl, J0, nb, up, sky, na, os, ag, hexm, hts⟩ := air
    have J : Inv X pins σ' H' sI := J0.ofTry ok
    have Ba : B.get? a = none := by
      rcases sky with q | q | q
      · exact q.2.1
      · exact q.2.1
      · exact q.2.1
    rw [hst] at sky
    show wpAny (model X.prog X.w) X.A (noteFrame (.ref a) X.env) _ _ _
    refine Sky.land Zc.steady frs_ hf sky fun h3 fl3 up3 => ?_
    have J3 : Inv X pins σ' H' { s' with heap := h3 } := J.landed nb fl3.1 (up.trans up3) os ag
    obtain ⟨o3, v3, at3, z3, d3⟩ := fl3.there
    have off : ∀ {hh : Heap} {o : Obj} {vs : Array Value}, hh.FunFrames B (X.env :: X.outer) → hh.get? a = some o → o.data = .fields vs → a ∉ frs (X.env :: X.outer) := by
      intro hh o vs ff e dd hm
      obtain ⟨_, o', e', q⟩ := ff.mem hm
      rw [e] at e'
      cases e'
      exact q _ dd
    have offa := off fl3.2.2.1 at3 d3
    have nL : a ≠ X.env.locals := fun q => offa (List.mem_filterMap.mpr ⟨X.env, List.mem_cons_self, by rw [hf, q]⟩)
    have nF : a ∉ X.fs := fun hm => by
      obtain ⟨e, he, q⟩ := List.mem_filterMap.mp hm
      exact offa (List.mem_filterMap.mpr ⟨e, List.mem_cons_of_mem _ he, q⟩)
    -- a is new: nothing of the state without it stands there
    have nI : sI.heap.get? a = none := by
      cases q : sI.heap.get? a with
      | none => rfl
      | some o =>
        have z := nb a o q (by rw [hst]; exact offa)
        rw [Ba] at z
        cases z
    have n0 : a ∉ X.ex → X.s_0.heap.get? a = none := fun nx => by
      cases q : X.s_0.heap.get? a with
      | none => rfl
      | some o =>
        obtain ⟨o', z⟩ := J.base.there a o q nx
        rw [nI] at z
        cases z
    have npin : ∀ p ∈ X.pn ++ pins, p.1 ≠ a := fun p hp q => by
      have z := (J.pin p hp).1
      rw [q, nI] at z
      cases z
    have S3 := J3.suite at3 d3 na nL nF
    refine wpAny_handleBy_cons (codeAny_handlers_test ?_) (fun q => nomatch q)
    have LT : PySem.W.Looks (model X.prog X.w) h3 (typeOf (.ref a)) cls := fun A Q E s k q => wpAny_typeOf_ref (k _ _ at3) (by rw [z3.1]; exact q)
    have LM := PySem.W.exm_one (M := model X.prog X.w) (J3.kIn) LT hexm
    have look : ∀ {Q : Value → Shared → Prop} {E : Value → Shared → Prop}, Q c { s' with heap := h3 } → wpAny (model X.prog X.w) (X.A.mark (some (.ref a))) (eval (.Name x np) X.env) Q E { s' with heap := h3 } := by
      intro Q E q
      rcases hc with ⟨hg, hdb, hm | ⟨hm, hv, hnn⟩⟩
      · exact ld_glob (X := X.suite a ((a, o3) :: (X.pn ++ pins))) S3 hg hm q hdb
      · exact ld_blt (X := X.suite a ((a, o3) :: (X.pn ++ pins))) S3 hg hm hv q hnn hdb
    refine look (LM.here (codeAny_handlers_suite_as (HandSPX.lands_againZ fl3 fun h4 fl4 up4 => ?_)))
    have J4 : Inv X pins σ' H' { s' with heap := h4 } := J.landed nb fl4.1 ((up.trans up3).trans up4) os ag
    obtain ⟨o4, v4, at4, z4, d4⟩ := fl4.there
    refine store_ok (X := X.suite a ((a, o4) :: (X.pn ++ pins))) (v := .ref a) (J4.suite at4 d4 na nL nF) nd hi (.inl kn) rfl (fun s5 S5 => ?_) (.inr kn)
    refine wpAny_mono ((hsu a o4 cls d (X.pn ++ pins) z4 ⟨_, d4⟩).run [] s5 _ H' _ S5 (hts a na)) (fun f s6 hsp => ?_) (fun _ _ z => False.elim z)
    cases f with
    | next =>
      obtain ⟨σ6, H6, S6, q6⟩ := hsp
      obtain ⟨at6, na6, _⟩ := S6.pin (a, o4) (List.mem_append_left _ List.mem_cons_self)
      have T6 := told_at (S6.unsuite ok) at6 z4 d4 na6 (n0 (by rw [hex]; exact fun z => nomatch z)) nL npin
      exact gone_ok T6 nd hi kn fun s7 J7 => ⟨_, _, J7, q6 na6⟩
    | brk => exact hsp.elim fun _ q => q.elim fun _ q => q.2.elim
    | cont => exact hsp.elim fun _ q => q.elim fun _ q => q.2.elim
    | ret u =>
      obtain ⟨_, _, _, _, _, q⟩ := hsp
      exact q.elim
  · cases f with
    | next =>
      obtain ⟨σ', H', J', q⟩ := hsp
      exact wpAny_execs_nil ⟨σ', H', J'.ofTry ok, q⟩
    | ret u =>
      obtain ⟨v, σ', H', J', r, q⟩ := hsp
      exact ⟨v, σ', H', J'.ofTry ok, r, q⟩
    | brk =>
      obtain ⟨σ', H', J', q⟩ := hsp
      exact ⟨σ', H', J'.ofTry ok, q⟩
    | cont =>
      obtain ⟨σ', H', J', q⟩ := hsp
      exact ⟨σ', H', J'.ofTry ok, q⟩
end
end Hk
end S_Wa
section S_Wb
namespace Hk
open PySem PySem.Spec PyProof.Rows L2
/-- what the written part must say of an own error's class at D, whose errors are asked about -/
structure ErrC (K : PySem.W.Frag) (D : Addr) : Prop where
  ga : PySem.W.findIn K (.ref D) "__getattribute__" = some (some (.builtin "BaseException.__getattribute__"))
  gg : PySem.W.findIn K (.ref D) "__getattr__" = some none
  ex : PySem.W.subIn K (.ref D) (.type "BaseException") = some true
  hd : PySem.W.hasDictIn K D = true
  ci : PySem.W.isClsIn K D = true
  ha : PySem.W.findIn K (.ref D) "__class__" = some (some (.builtin "object.__class__"))
  hn : PySem.W.specialIn K (.builtin "object.__class__") "__get__" = some (some (.builtin "getset_descriptor.__get__"))
  ht : PySem.W.takesIn K (.builtin "object.__class__") = some true
  hm : PySem.W.mroIn K D (.type "object") = some true
/-- the error's own dict, if it has one, is told of -/
def DictAt (H : Hp) (d : Option Addr) (fs : List (Str × V)) : Prop := ∃ dd, d = some dd ∧ H dd = some (.xd fs)
/-- isinstance(e, c) of a kept error -/
def rIsK (K : PySem.W.Frag) : List V → Hp → VK → Prop := fun xs H Q => ∃ (a D : Addr) (d : Option Addr) (fs : List (Str × V)) (c : V) (u : Value) (b : Bool), xs = [.ref a, c] ∧ H a = some (ErrAt (.ref D) d a) ∧ DictAt H d fs ∧ ErrC K D ∧ ClsV c u ∧ PySem.W.kitOne K (.ref D) u = some b ∧ Q (.bl b) H
section
variable {X : Cx} {pins : List (Addr × Obj)} {σ : L2.St} {H : Hp} {s : Shared}
theorem at_inst {a D : Addr} {d : Option Addr} {fs : List (Str × V)} (I : Inv X pins σ H s) (ha : H a = some (ErrAt (.ref D) d a)) (hd : DictAt H d fs) :
    ∃ (oe od : Obj) (mA : Str → Option Value), PySem.W.InstAt s.heap a oe D (some od) ∧ (∀ name, PySem.W.lookIn name od = some (mA name)) ∧ ∀ f, RelO (fs.lookup f) (mA f) := by
  obtain ⟨⟨oe, vs, he, hz, hv⟩, _, _⟩ := (show ObjOk X.prog X.w H s.heap a (ErrAt (.ref D) d a) from I.hok a _ ha)
  obtain ⟨dd, rfl, hdd⟩ := hd
  obtain ⟨mA, hns, hr⟩ := (show ObjOk X.prog X.w H s.heap dd (.xd fs) from I.hok dd _ hdd)
  obtain ⟨od, ho, hl⟩ := lookIn_ns hns
  exact ⟨oe, od, mA, ⟨he, hz.1, by unfold PySem.W.notCls; rw [hv] <;> rfl, by rw [hz.2]; exact ho⟩, hl, hr⟩
theorem call_isKept : CallR X (.builtin "isinstance") (rIsK X.K) := by
  intro pins s σ H xs us Q I r h
  obtain ⟨a, D, d, fs, c, u, b, rfl, ha, hd, C, hc, e, q⟩ := h
  cases r with
  | cons rx rr =>
    cases rr with
    | cons rt rr =>
      cases rr
      cases rx
      have ec := hc.eq rt
      subst ec
      obtain ⟨oe, od, mA, J, _, _⟩ := at_inst I ha hd
      exact PySem.W.kia_one (PySem.W.kitx_exc C.ci C.ga C.gg C.ex C.ha C.hn C.ht C.hm) I.kIn J e (fun z => nomatch z) fun tk => ⟨.bl b, H, I.kept (t' := tk) fun _ _ z => z, rfl, q⟩
/-- of either -/
theorem call_isAny : CallR X (.builtin "isinstance") (fun xs H Q => rIsi X.K xs H Q ∨ rIsK X.K xs H Q) := by
  intro pins s σ H xs us Q I r h
  rcases h with h | h
  · exact call_isi _ _ _ _ _ _ _ I r h
  · exact call_isKept _ _ _ _ _ _ _ I r h
/-- e.f, e a kept error -/
def tKeptF (K : PySem.W.Frag) (f : Str) (te : TE) : TE := fun σ H Q => te σ H fun x H1 => ∃ (a D : Addr) (d : Option Addr) (fs : List (Str × V)) (v : V), x = .ref a ∧ H1 a = some (ErrAt (.ref D) d a) ∧ DictAt H1 d fs ∧ ErrC K D ∧ PySem.W.findIn K (.ref D) f = some none ∧ fs.lookup f = some v ∧ Q v H1
theorem pe_keptF {e : Expr} {te : TE} {pos : Pos} {f : Str} (he : PE X e te) (hb : attributeBase e f X.env (eval e X.env) = eval e X.env := by rfl) : PE X (.Attribute e f pos) (tKeptF X.K f te) := by
  refine ⟨fun pins s σ H Q I h => attr_of hb (thn (he.run pins s σ H _ I h) fun u s1 hh => ?_)⟩
  obtain ⟨x, H1, I1, rx, a, D, d, fs, v, rfl, ha, hd, C, hno, hl, q⟩ := hh
  obtain rfl : u = Value.ref a := rx
  obtain ⟨oe, od, mA, J, look, rel⟩ := at_inst I1 ha hd
  obtain ⟨w, hw, rw_⟩ := RelO.some_of (v := v) (o := mA f) (by rw [← hl]; exact rel f)
  exact HandSPX.exc_get I1.kIn J C.ga C.gg C.ex (PySem.W.findObj_own C.hd hno rfl (by rw [look, hw])) (handed_of rw_) ⟨v, H1, I1.tok _, rw_, q⟩
end
end Hk
end S_Wb
section S_Wc
set_option maxHeartbeats 2000000
namespace PySem
namespace PartX
open PySem.W PySem.Calls PyProof.Rows PySem.HandSPX
/-! ### the text of __init__ -/
def iA (p1 p2 : Pos) : Arguments := { posonlyargs := [], args := [{ arg := "self", annotation := none, pos := p1 }, { arg := "part", annotation := none, pos := p2 }], vararg := none, kwonlyargs := [], kw_defaults := [], kwarg := none, defaults := [] }
def iB (q1 q2 q3 q4 : Pos) : List Stmt := [.Assign [.Attribute (.Name "self" q1) "part" q2] (.Name "part" q3) q4]
def iS : Scope := { kind := .function, names := [(PySem.Str.ofString "self", .local), (PySem.Str.ofString "part", .local)], isGenerator := false, isCoroutine := false, more := [] }
/-- what the written part says of Low, at C, and of its __init__, at fI -/
structure PartTxt (K : Frag) (mg : Str → Option Value) (nmE qI : Str) (C fI : Addr) : Prop where
  gC : mg nmE = some (.ref C)
  cls : ∃ nm q N bs bm sn sub ab col dd k0 k1 k2 k3 k5, K.lookup C = some (excClassObj nm q C N bs bm true sn sub ab col dd k0 k1 k2 k3 k5 "ValueError.__new__") ∧ refsVE bm = true
  sa : findIn K (.ref C) "__setattr__" = some (some (.builtin "object.__setattr__"))
  ga : findIn K (.ref C) "__getattribute__" = some (some (.builtin "BaseException.__getattribute__"))
  gg : findIn K (.ref C) "__getattr__" = some none
  noN : findIn K (.ref C) "part" = some none
  iC : findIn K (.ref C) "__init__" = some (some (.ref fI))
  tC : typeIn K (.ref fI) = some (.type "function")
  kC : keepIn K (.ref C) = true
  exC : subIn K (.ref C) (.type "BaseException") = some true
  tyC : typeIn K (.ref C) = some (.type "type")
  hdC : hasDictIn K C = true
  fn : ∃ (oc : Value) (od : Option Addr) (doc pm : Value) (an : Option Addr) (cdv ct : Value) (osl : Array (Option Value)) (p1 p2 q1 q2 q3 q4 : Pos),
    K.lookup fI = some ⟨oc, od, .func (fnOf "__init__" qI (iA p1 p2) (iB q1 q2 q3 q4) iS .none .none doc pm an cdv ct), osl⟩ ∧ codeIn K cdv qI = true
theorem one_size (v : Value) : [v].length ≤ sizeLine := by
  rw [sizeLine_eq]
  exact (by decide : 1 ≤ 16777216)
theorem kept_but {K : Frag} {h h' : Heap} {x : Addr} (X : K.In h) (hx : K.lookup x = none) (k : ∀ b o, b ≠ x → h.get? b = some o → h'.get? b = some o) : K.In h' := fun a o e =>
  k a o (fun z => by rw [z, hx] at e; cases e) (X a o e)
theorem ldC {M : Model} {s : Shared} {name : Str} {scope : Scope} {L a : Addr} {cd : Value} {m : Str → Option Value} {x : Str} {pos : Pos} {v : Value} {Q : Value → Shared → Prop} {A : Around} {E : Value → Shared → Prop} (hn : s.heap.Ns L m) (hv : m x = some v) (h : Q v s)
    (hk : scope.kind = .function := by rfl) (hl : (envOfC name scope L a cd).kindOf x = some .local := by rfl) (hd : (x == ("__debug__" : Str)) = false := by decide) :
    wpAny M A (eval (.Name x pos) (envOfC name scope L a cd)) Q E s := wpAny_Name (wpAny_loadName_local hk hl hn hv h) hd
/-- what __init__ leaves of a fresh exception at x -/
structure InitEnd (h h' : Heap) (x C dx t1 : Addr) (v : Value) : Prop where
  keep : ∀ b o, b ≠ x → h.get? b = some o → h'.get? b = some o
  obj : h'.get? x = some { cls := .ref C, dict := some dx, data := .fields #[.ref t1, .none, .none, .none, .bool false, .none] }
  dbig : h.objs.size ≤ dx
  dne : dx ≠ x
  ns : h'.Ns1 dx (fun y => if y = "part" then some v else none)
/-- a made Low -/
structure OwnMade (h h' : Heap) (e C d : Addr) (v : Value) : Prop where
  keep : ∀ b o, h.get? b = some o → h'.get? b = some o
  new : h.objs.size ≤ e
  obj : ∃ oe vs, h'.get? e = some oe ∧ oe.cls = .ref C ∧ oe.dict = some d ∧ oe.data = .fields vs ∧ vs[1]? = some .none
  dbig : h.objs.size ≤ d
  dne : d ≠ e
  ns : h'.Ns1 d (fun y => if y = "part" then some v else none)
section
variable {prog : Program} {w : World} {A : Around} {E : Value → Shared → Prop} {R : Result → Shared → Prop} {s : Shared} {K : Frag} {mg : Str → Option Value} {nmE qI : Str} {C fI : Addr}
theorem part_init (T : PartTxt K mg nmE qI C fI) {x t0 : Addr} {v : Value} (X : K.In s.heap) (hlim : s.heap.NoLimit) (hx : s.heap.get? x = some (excO C t0)) (hnx : K.lookup x = none) (hroom : A.depth < recursionLimit)
    (hq : ∀ h' tk dx, InitEnd s.heap h' x C dx t0 v → R (.ok (.ret .none)) { s with heap := h', toks := tk }) :
    codeAny (model prog w) A (.call (.ref fI) ⟨[.ref x, v], []⟩) R s := by
  obtain ⟨oc, od, doc, pm, an, cdv, ct, osl, p1, p2, q1, q2, q3, q4, ho, hcd⟩ := T.fn
  obtain ⟨nm, q, N, bs, bm, sn, sub, ab, col, dd, k0, k1, k2, k3, k5, hC, hbm⟩ := T.cls
  have hcl : clsIn K C = some { name := nm, bases := bs, mro := .ref C :: bm, ns := N, qualname := q, hasDict := true, slotNames := sn, subclasses := sub, abstract := ab, collection := col, hasDel := false } := by unfold clsIn; rw [hC] <;> rfl
  refine Att.call_fn (binds := [("self", .ref x), ("part", v)]) X hlim ho hcd hroom (BindsTo.of_eq (by first | rfl | with_unfolding_all rfl)) (by first | rfl | decide | with_unfolding_all rfl) (fun s₁ IC => ?_) rfl rfl rfl
  obtain ⟨h₁, tk₁, rfl⟩ := IC.toInCall.same
  have k : ∀ b o, s.heap.get? b = some o → h₁.get? b = some o := IC.toInCall.keep
  have hn := IC.toInCall.ns
  have hxL : s.heap.objs.size ≠ x := Nat.ne_of_gt (Heap.lt_size hx)
  have X₁ : K.In h₁ := X.keeps k
  have hx₁ := k _ _ hx
  -- self.by = by
  show wpAny _ _ (execs _ _) _ _ _
  refine wpAny_execs_cons (plainObj_wpAny_Assign_Attribute ?_)
  refine ldC (v := v) hn (by first | rfl | with_unfolding_all rfl | kernel_rfl) (ldC (v := .ref x) hn (by first | rfl | with_unfolding_all rfl | kernel_rfl) ?_)
  refine set_plain X₁ (ox := excO C t0) (od := none) ⟨hx₁, rfl, rfl, trivial⟩ T.sa ?_
  refine exc_osa X₁ hx₁ hcl (show refsVE (.ref C :: bm) = true from hbm) rfl T.noN (fun h₃ tk₃ dx k₃ dn dne hx₃ hn₃ => ?_)
  show wpAny _ _ (execs _ _) _ _ _
  have z : s.heap.objs.size < h₁.objs.size := hn.lt
  exact wpAny_execs_nil (hq h₃ tk₃ dx ⟨fun b o hb e => k₃ b o hb (k b o e), hx₃, Nat.le_of_lt (Nat.lt_of_lt_of_le z dn), dne, hn₃⟩)
theorem part_made (T : PartTxt K mg nmE qI C fI) {v : Value} (X : K.In s.heap) (hlim : s.heap.NoLimit) (hroom : A.depth + 1 < recursionLimit)
    (hq : ∀ h' tk e d, OwnMade s.heap h' e C d v → R (.ok (.ret (.ref e))) { s with heap := h', toks := tk }) :
    codeAny (model prog w) A (.call (.ref C) ⟨[v], []⟩) R s := by
  obtain ⟨nm, q, N, bs, bm, sn, sub, ab, col, dd, k0, k1, k2, k3, k5, hC, hbm⟩ := T.cls
  obtain ⟨hp, g, dr, tk, os⟩ := s
  have k : ∀ b o, hp.get? b = some o → ((hp.push (kdv_tup [v])).push (excO C hp.objs.size)).get? b = some o := fun b o e => Heap.get?_push_of_some _ (Heap.get?_push_of_some _ e)
  have hget : ((hp.push (kdv_tup [v])).push (excO C hp.objs.size)).get? (hp.objs.size + 1) = some (excO C hp.objs.size) := by heap_get
  have hnx : K.lookup (hp.objs.size + 1) = none := by
    cases e : K.lookup (hp.objs.size + 1) with
    | none => rfl
    | some o =>
      have z : hp.get? (hp.objs.size + 1) = some o := X _ _ e
      exact absurd (Nat.lt_of_succ_lt (Heap.lt_size z)) (Nat.lt_irrefl _)
  refine call_own F.excBase_ValueError (fun X => refsVE_contains X bm hbm) (X _ _ hC) (looks_findIn X T.iC) (fun self => bind_fn X self T.tC) (one_size v) ?_
  refine part_init (s := ⟨(hp.push (kdv_tup [v])).push (excO C hp.objs.size), g, dr, tk, os⟩) T (X.keeps k) (hlim.keeps k) hget hnx ?_ fun h' tk' dx ⟨k', hx, dn, dne, hns⟩ => ?_
  · show A.depth + 1 < recursionLimit
    exact hroom
  · have old : ∀ b o, hp.get? b = some o → h'.get? b = some o := fun b o e => k' b o (Nat.ne_of_lt (Nat.lt_succ_of_lt (Heap.lt_size e))) (k b o e)
    have z : hp.objs.size + 1 + 1 ≤ dx := by
      first
        | (simpa only [Heap.size_push] using dn)
        | exact dn
        | (have q := dn; rw [Heap.size_push, Heap.size_push] at q; exact q)
    exact ⟨rfl, hq h' tk' (hp.objs.size + 1) dx ⟨old, Nat.le_succ _, ⟨_, _, hx, rfl, rfl, rfl, rfl⟩, Nat.le_trans (Nat.le_trans (Nat.le_succ _) (Nat.le_succ _)) z, dne, hns⟩⟩
end
end PartX
end PySem
namespace L2
open PySem PySem.Spec PyProof.Rows
theorem relO_part {v : V} {v' : Value} (r : RelV v v') (f : Str) : RelO (List.lookup f [(("part" : Str), v)]) (if f = "part" then some v' else none) := by
  by_cases hw : f = "part"
  · subst hw
    rw [if_pos rfl]
    have q : List.lookup ("part" : Str) [(("part" : Str), v)] = some v := by simp [List.lookup]
    rw [q]
    exact r
  · rw [if_neg hw]
    have qw : (f == ("part" : Str)) = false := by simpa using hw
    have q2 : List.lookup f [(("part" : Str), v)] = none := by simp [List.lookup, qw]
    rw [q2]
    trivial
section
variable {X : Cx} {nmE qI : Str} {C fI : Addr}
/-- Low(e) -/
def tMkPart (C : Addr) (ta : TA) : St → Hp → XK → Prop := fun σ H Q => ta σ H fun vs H1 => ∃ v, vs = [v] ∧ ∀ d, H1 d = none → Q (.ref C) (some d) (upd H1 d (.xd [(("part" : Str), v)]))
theorem pmk_part {a : Expr} {ta : TA} {p pos : Pos} {k : Nat} (T : PySem.PartX.PartTxt X.K X.mg nmE qI C fI) (hr : Room k X.A) (ha : PA X [a] ta) (hg : Gl X nmE) (hdb : (nmE == ("__debug__" : Str)) = false := by decide)
    (he : starEach (a :: []) X.env = (false, eval a X.env) :: starEach [] X.env := by rfl) (hpl : (backTo pos (starEach [] X.env)).any (·.1) = false := by rfl) :
    PMk X (.Call (.Name nmE p) [a] [] pos) (tMkPart C ta) := by
  intro pins s σ H Q I h
  refine wpAny_Call_Name_kw (ld_glob I hg T.gC ?_ hdb)
  refine PySem.W.callWith_K (h₀ := X.base) I.ok.mod.kin T.kC (thn (ha.run pos pins s σ H _ I h) fun us s1 hh => ?_) he hpl
  obtain ⟨vs, H1, I1, r1, v, ev, q1⟩ := hh
  subst ev
  refine ⟨I1.kIn, ?_⟩
  cases r1 with
  | cons rv rn =>
    rename_i v' us'
    cases rn
    show wpAny _ _ (call (.ref C) [v']) _ _ _
    have hlim := I1.nolimit
    obtain ⟨hp, g, dr, tk, os⟩ := s1
    refine wpAny_call (PySem.PartX.part_made T I1.kIn hlim (by have := hr.dp; omega) fun h' tk' e d M => ?_)
    show MkP X pins σ Q (.ref e) ⟨h', g, dr, tk', os⟩
    obtain ⟨oe, fv, hoe, hc, hd, hdat, h1⟩ := M.obj
    have hns := M.ns
    obtain ⟨G', g1, g2⟩ := restrict h' fun b => decide (b ≠ e)
    have gk : ∀ b, b ≠ e → G'.get? b = h'.get? b := fun b hb => g1 b (decide_eq_true hb)
    have ge : G'.get? e = none := g2 e (by simp)
    have old : ∀ b o, hp.get? b = some o → G'.get? b = some o := fun b o q => (gk b (Nat.ne_of_lt (Nat.lt_of_lt_of_le (Heap.lt_size q) M.new))).trans (M.keep b o q)
    have ob : ObjOk X.prog X.w (upd H1 d (.xd [(("part" : Str), v)])) G' d (.xd [(("part" : Str), v)]) :=
      ⟨_, hns.at (fun o q => (gk d M.dne).trans q), fun f => relO_part rv f⟩
    have J : Inv X pins σ (upd H1 d (.xd [(("part" : Str), v)])) ⟨G', g, dr, tk', os⟩ := I1.laid (t' := tk') old M.dbig ob
    refine ⟨e, oe, fv, ⟨G', g, dr, tk', os⟩, _, .ref C, some d, rfl, J, fun b o q => ?_, ge, hoe, ⟨hc, hd⟩, hdat, h1, ?_, rfl, I1.bare, raises_own T.exC T.tyC, q1 d (I1.hok.fresh M.dbig)⟩
    · by_cases hb : b = e
      · have q' : G'.get? b = some o := q
        rw [hb, ge] at q'; cases q'
      · exact (gk b hb).symm.trans q
    · rw [upd_ne (Ne.symm M.dne)]
      exact I1.hok.fresh M.new
/-- raise Low(e) -/
def tRaisePart (C : Addr) (W : WX) (ta : TA) : TS := fun _ σ H => tMkPart C ta σ H fun cls d H' => W cls d σ H'
theorem ps_raisePart {a : Expr} {ta : TA} {W : WX} {p pos pos2 : Pos} {k : Nat} (hc : X.calm = true) (T : PySem.PartX.PartTxt X.K X.mg nmE qI C fI) (hr : Room k X.A) (tk : Takes X W) (ha : PA X [a] ta) (hg : Gl X nmE) (hdb : (nmE == ("__debug__" : Str)) = false := by decide)
    (he : starEach (a :: []) X.env = (false, eval a X.env) :: starEach [] X.env := by rfl) (hpl : (backTo pos (starEach [] X.env)).any (·.1) = false := by rfl) :
    PS X (.Raise (some (.Call (.Name nmE p) [a] [] pos)) none pos2) (tRaisePart C W ta) := ps_raise hc tk (pmk_part T hr ha hg hdb he hpl)

end
end L2
end S_Wc
section S_Wd
namespace Hk
open PySem PySem.Spec PyProof.Rows L2 LamX
theorem takes_len {X : Cx} {W : WX} (tk : L2.Takes X W) : L2.Takes X (fun cls d σ H => σ.length = X.N.length → W cls d σ H) := fun u s' ⟨a, B, sI, pins, σ, H, cls, d, e, I, nb, up, sky, na, os, ag, w⟩ =>
  tk u s' ⟨a, B, sI, pins, σ, H, cls, d, e, I, nb, up, sky, na, os, ag, w I.len⟩
abbrev nAsk : List Str := ["ask", "caught", "error"]
/-- caught = None / try: ask() / except E as error: caught = error / return ret -/
def THeard (K : PySem.W.Frag) (CS : Addr) (tr : TE) : (XK → Hp → VK → Prop) → Hp → VK → Prop := fun tl H Q => ∀ f : Addr,
  tl (fun cls d H' => PySem.W.exmOne K cls (.ref CS) = some true ∧ ∀ a, H' a = none → ∀ σ' : L2.St, σ'.length = 3 → σ'[1]? = some (some (.ref a)) → tr σ' (upd H' a (ErrAt cls d a)) Q) H
    fun _ H' => tr [some (.ref f), some .non, none] H' Q
abbrev cxA (X : Cx) (x : Str) (sg : Scope) (g : Addr) (cdg : Value) (A : Around) (s : Shared) (H : Hp) : Cx := (cxOf C8.CX0 X.prog X.w X.K X.mg X.base nAsk x sg g cdg A X.stack s H C8.E0).nox
theorem heard_gives {X : Cx} {x e q : Str} {sg : Scope} {g CS : Addr} {cdg : Value} {j : Nat} {rt : Expr} {tr : TE} {p1 p2 p3 p4 p5 p6 p7 p8 p9 r1 r2 r3 r4 : Pos} (Sg : FnScope nAsk ["ask"] sg) (k1 : sg.names.lookup ("caught" : Str) = some NameKind.local) (k2 : sg.names.lookup ("error" : Str) = some NameKind.local)
    (hge : sg.names.lookup e = some .globalImplicit) (hme : X.mg e = some (.ref CS)) (hde : (e == ("__debug__" : Str)) = false)
    (hrt : ∀ (A : Around) (s : Shared) (H : Hp), PE (cxA X x sg g cdg A s H) rt tr) :
    GivesTo X nAsk x sg g cdg [.Assign [.Name "caught" p1] (.Constant .none j p2) p3, .Try [.Expr (.Call (.Name "ask" r1) [] [] r2) r3] [.ExceptHandler (some (.Name e p4)) (some "error") [.Assign [.Name "caught" p5] (.Name "error" p6) p7] p8] [] [] p9, .Return (some rt) r4] "ask" q (THeard X.K CS tr) := by
  intro f c' s H Q tl act hc h
  have gE : Gl (cxA X x sg g cdg X.A s H) e := hge
  have l1 : ∀ {Y : Cx}, Y.env.scope = sg → (Y.fn "caught" = true ∨ Y.env.scope.names.lookup ("caught" : Str) = some NameKind.local) := fun e => .inr (by rw [e]; exact k1)
  refine ⟨_, pss_cons (ps_set (X := cxA X x sg g cdg X.A s H) (i := 1) Sg.nd rfl (Or.inl k1) pe_non rfl (l1 rfl)) (pss_cons (ps_keep (X := cxA X x sg g cdg X.A s H) (i := 2) (c := .ref CS) (ts := fun _ _ _ => tAsg (tVar 2) (gName 1))
      (tb := fun W D σ H => ∃ Ech : XK, (∀ cls d σ' H', Ech cls d H' → σ'.length = 3 → W cls d σ' H') ∧ σ[0]? = some (some (.ref f)) ∧ H c' = some (CodeO c' q) ∧ tl Ech H (fun _ H' => D.nx σ H'))
      rfl rfl rfl Sg.nd rfl k2 ⟨gE, hde, Or.inl hme⟩ (fun W pn xe tk _ => ?_) (fun a oe cls d pn _ _ => pss_one (ps_set (i := 1) Sg.nd rfl (Or.inl k1) (pe_var (i := 2) rfl (Or.inl k2)) rfl (l1 rfl)))) (pss_one (ps_ret (hrt X.A s H)))), ?_⟩
  · refine ⟨fun pins s' σ H' D I h' => ?_⟩
    obtain ⟨Ech, hW, h1, h2, h3⟩ := h'
    have hp := act (fun cls d σ H => σ.length = nAsk.length → W cls d σ H) pn xe Ech r1 r2 (takes_len tk) hW
    exact (pss_one (ps_expr (pos := r3) hp)).run pins s' σ H' D I ⟨h1, h2, h3⟩
  · have h' : tl (fun cls d H' => PySem.W.exmOne X.K cls (.ref CS) = some true ∧ ∀ a, H' a = none → ∀ σ' : L2.St, σ'.length = 3 → σ'[1]? = some (some (.ref a)) → tr σ' (upd H' a (ErrAt cls d a)) Q) H (fun _ H' => tr [some (V.ref f), some .non, none] H' Q) := h f
    refine ⟨fun cls d H' => PySem.W.exmOne X.K cls (.ref CS) = some true ∧ ∀ a, H' a = none → ∀ σ' : L2.St, σ'.length = 3 → σ'[1]? = some (some (.ref a)) → tr σ' (upd H' a (ErrAt cls d a)) Q, ?_, rfl, hc, h'⟩
    intro cls d σ' H' hh hl
    obtain ⟨he, hk⟩ := hh
    refine ⟨he, fun a na => ?_⟩
    exact ⟨.ref a, by rw [List.getElem?_set_self (by omega)] <;> rfl, fun na' => hk a na' _ (by simp [hl]) (by rw [List.getElem?_set_ne (by decide), List.getElem?_set_self (by simp [hl])] <;> rfl)⟩
end Hk
end S_Wd
section S_We
namespace Hk
open PySem PySem.Spec PyProof.Rows L2 LamX Tl
/-- the law's own call where no repr is under way, its code object's table tracked -/
theorem law_gT {P : Program} {w : World} {K : PySem.W.Frag} {mg mb : Str → Option Value} {k : Nat} {fa a c T : Addr} {fd : FuncData} {x : Str} {sp : Sp} {s₁ : Shared} {vs : List Value} {ns : List Int}
    (kin : K.In s₁.heap) (hns : s₁.heap.Ns mainGlobals mg) (hb : s₁.heap.Ns builtinsNs mb) (hbb : ∀ x : Str, x ≠ "__name__" → mb x = bootBuiltins x) (hlim : s₁.heap.NoLimit) (hg : s₁.gens = #[])
    (hT : s₁.heap.get? T = some { cls := .none, data := .fields #[] }) (nT : K.lookup T = none) (hC : PySem.W.CodeHd s₁.heap c T)
    (hbm : ∃ (bm : Addr) (ob : Obj), mg "__builtins__" = some (.ref bm) ∧ bm ≠ builtinsNs ∧ s₁.heap.get? bm = some ob ∧ ob.cls = .type "module" ∧ ob.dict = some builtinsNs ∧ ob.data = .plain)
    (ha : s₁.heap.get? a = some { cls := .type "list", data := .seq vs.toArray }) (hi : IntsAre vs ns) (hl : ns.length ≤ sizeLine) (hr : Room k callerA)
    (F : ∀ base : Heap, K.In base → base.Ns mainGlobals mg → TabB base mg c T → FnG P w K mg base k fa fd [x] sp) (hbind : ∀ (s : Shared) (u : Value), BindsTo s fd ⟨[u], []⟩ [(x, u)])
    (hsp : ∀ H : Hp, H T = some (.tbl #[]) → SqL K H a (ns.map V.int) → sp [.ref a] H (fun v _ => v = .bl true) fun _ _ _ => False) :
    codeAny (model P w) callerA (.call (.ref fa) ⟨[.ref a], []⟩) (fun r s' => r = .ok (.ret (.bool true)) ∧ OldK s₁.heap s'.heap ∧ s'.os = s₁.os ∧ AllBare s'.gens) s₁ := by
  have rv := vals_ints hi
  have aT : a ≠ T := fun z => by
    rw [z, hT] at ha
    have z' : Data.fields #[] = Data.seq vs.toArray _ := congrArg Obj.data (Option.some.inj ha)
    cases z'
  have run : ∀ H : Hp, H T = some (.tbl #[]) → SqL K H a (ns.map V.int) → HOk P w H s₁.heap → (∀ b u, H b = some u → b = T ∨ (b = a ∧ K.lookup a = none ∧ ∃ o xs, u = .frz o (.lst xs))) →
      codeAny (model P w) callerA (.call (.ref fa) ⟨[.ref a], []⟩) (fun r s' => r = .ok (.ret (.bool true)) ∧ OldK s₁.heap s'.heap ∧ s'.os = s₁.os ∧ AllBare s'.gens) s₁ := by
    intro H hHT hS hok hA
    have keepB : ∀ {b : Addr} {o : Obj}, s₁.heap.get? b = some o → (∀ vs n, o.data ≠ .seq vs n) → o.data ≠ .fields #[] → (hidT s₁.heap H).get? b = some o := fun {b o} e h1 h2 => by
      refine hidT_get e ?_
      cases q : H b with
      | none => rfl
      | some u =>
        rcases hA b u q with e1 | ⟨e1, _⟩
        · rw [e1, hT] at e
          cases e
          exact absurd rfl h2
        · rw [e1, ha] at e
          cases e
          exact absurd rfl (h1 _ _)
    have ns_of : ∀ {b : Addr} {m : Str → Option Value}, s₁.heap.Ns b m → (hidT s₁.heap H).Ns b m := fun {b m} hm => by
      obtain ⟨o, es, ep, e, d, r⟩ := hm
      exact ⟨o, es, ep, keepB e (fun vs n z => by rw [d] at z; cases z) (fun z => by rw [d] at z; cases z), d, r⟩
    have kb : K.In (hidT s₁.heap H) := fun b o e => hidT_get (kin b o e) (by
      cases q : H b with
      | none => rfl
      | some u =>
        rcases hA b u q with e1 | ⟨e1, e2, _⟩
        · rw [e1, nT] at e
          cases e
        · rw [e1, e2] at e
          cases e)
    have hM : Mod K mg (hidT s₁.heap H) := ⟨kb, ns_of hns, ⟨mb, ns_of hb, hbb⟩, hlim.elim fun mc h => ⟨mc, ns_of h.1, h.2⟩⟩
    have e0 : Env0 P w K mg (hidT s₁.heap H) callerA [] s₁ H := ⟨rfl, hM, fun _ _ e => of_hidT e, by rw [hidT_size] <;> exact Nat.le_refl _, trivial, fun _ hb => (nomatch hb), hok, .of_eq hg⟩
    have TB : TabB (hidT s₁.heap H) mg c T := by
      refine ⟨?_, ?_, fun z => ?_⟩
      · obtain ⟨o, us, file, tf, flags, tg, inF, text, tt, e1, r1, r2, r3, r4⟩ := hC
        exact ⟨o, us, file, tf, flags, tg, inF, text, tt, keepB e1 (fun vs n z => by rw [r2] at z; cases z) (fun z => by rw [r2] at z; cases z; simp at r3), r1, r2, r3, r4⟩
      · obtain ⟨bm, ob, b1, b2, b3, b4, b5, b6⟩ := hbm
        refine ⟨bm, ob, b1, b2, fun q => ?_, fun q => ?_, keepB b3 (fun vs n z => by rw [b6] at z; cases z) (fun z => by rw [b6] at z; cases z), b4, b5, b6⟩
        · obtain ⟨o, es, ep, e, hd, _⟩ := hns
          rw [q, e] at b3
          cases b3
          rw [hd] at b6
          cases b6
        · rw [q, hT] at b3
          cases b3
          cases b6
      · obtain ⟨o, es, ep, e, hd, _⟩ := hns
        rw [z, hT] at e
        cases e
        cases hd
    refine codeAny_mono ((F _ kb (ns_of hns) TB).go rfl hr e0 (us := [.ref a]) (hbind s₁ (.ref a)) (vs := [.ref a]) (.cons rfl .nil) (hsp H hHT hS)) fun r s' h => ?_
    match r, h with
    | .ok (.ret u), h =>
      obtain ⟨v, H', os, bare, un, hok', r', q⟩ := h
      cases (show v = .bl true from q)
      cases (show u = Value.bool true from r')
      obtain ⟨more, zT⟩ := un.tbls T #[] hHT
      have grown : s'.heap.get? T = some { cls := .none, data := .fields more } := by
        have q := hok' T _ zT
        rw [Array.empty_append] at q
        exact q
      have others : ∀ b o, b ≠ T → s₁.heap.get? b = some o → s'.heap.get? b = some o := fun b o nb e => by
        cases q : H b with
        | none => exact un.keep b o e q (fun y => (nomatch y)) (fun y => (nomatch y))
        | some u =>
          rcases hA b u q with z | ⟨_, _, ob, xs, rfl⟩
          · exact absurd z nb
          · obtain ⟨e1, _⟩ := hok b _ q
            obtain ⟨e2, _⟩ := hok' b _ (un.frzs b ob _ q)
            rw [e] at e1
            cases e1
            exact e2
      refine ⟨rfl, ⟨fun b o e => ?_, fun b o e => ?_⟩, os, bare⟩
      · by_cases hb : b = T
        · subst hb
          rw [hT] at e
          cases e
          exact .inr (.inl ⟨(hC.tab hT).isCodeTable, rfl, #[], more, rfl, by rw [Array.empty_append]; exact grown⟩)
        · exact .inl (others b o hb e)
      · by_cases hb : b = T
        · subst hb
          exact ⟨_, grown⟩
        · exact ⟨o, others b o hb e⟩
    | .error e, h => exact False.elim h
    | .ok .next, h => exact False.elim h
    | .ok .brk, h => exact False.elim h
    | .ok .cont, h => exact False.elim h
  have tT : (if T = T then some (HO.tbl #[]) else none) = some (HO.tbl #[]) := if_pos rfl
  cases hk : K.lookup a with
  | some o =>
    have e := kin a o hk
    rw [ha] at e
    cases e
    refine run (fun b => if b = T then some (.tbl #[]) else none) tT (.inr ⟨_, vs.toArray, _, hk, rfl, rfl, rfl, ?_, by simpa using rv⟩) (fun b u z => ?_) (fun b u z => ?_)
    · rw [List.size_toArray, hi.length]
      exact hl
    · dsimp only at z
      by_cases hb : b = T
      · rw [if_pos hb] at z
        cases z
        rw [hb]
        exact hT
      · rw [if_neg hb] at z
        cases z
    · skip
      by_cases hb : b = T
      · exact .inl hb
      · rw [if_neg hb] at z
        cases z
  | none =>
    refine run (fun b => if b = T then some (.tbl #[]) else if b = a then some (.frz { cls := .type "list", data := .seq vs.toArray } (.lst (ns.map V.int))) else none) (if_pos rfl) (.inl (.inr ⟨_, by dsimp only; rw [if_neg aT, if_pos rfl]⟩)) (fun b u z => ?_) fun b u z => ?_
    · dsimp only at z
      by_cases hb : b = T
      · rw [if_pos hb] at z
        cases z
        rw [hb]
        exact hT
      · rw [if_neg hb] at z
        by_cases hb2 : b = a
        · rw [if_pos hb2] at z
          cases z
          subst hb2
          exact ⟨ha, by rw [List.length_map]; exact hl, vs, _, rv, ha⟩
        · rw [if_neg hb2] at z
          cases z
    · skip
      by_cases hb : b = T
      · exact .inl hb
      · rw [if_neg hb] at z
        by_cases hb2 : b = a
        · rw [if_pos hb2] at z
          cases z
          exact .inr ⟨hb2, hk, _, _, rfl⟩
        · rw [if_neg hb2] at z
          cases z
theorem walk_gT {l : PySem.W.OpenLaw} {n k : Nat} {q : Program} {loose : List Str} {XP : (Str → Option Value) → Heap → Prop} {YP : World → Heap → Prop} {d : DefRec} {K : Params → PySem.W.Frag} {x : Str}
    (hn : l.most = some n) (hn2 : n ≤ sizeLine) (hdf : d.params.defaults = []) (hr : Room k callerA) (hrec : ((recsOf q).any fun e => e.name == d.name) = true) (hY : ∀ (w : World) (h : Heap), YP w h → (K w.params).In h)
    (F : ∀ (w : World) (mg : Str → Option Value) (fa : Addr) (h : Heap), (K w.params).In h → h.Ns mainGlobals mg → mg d.name = some (.ref fa) →
      ∃ (fd : FuncData) (T c : Addr) (o : Obj) (sp : Sp) (e : Value) (dd : Option Addr) (vs : Array Value) (sl : Array (Option Value)), (K w.params).lookup fa = some o ∧ o.data = .func fd ∧ fd.code = .ref c ∧ (K w.params).lookup c = some ⟨e, dd, .fields vs, sl⟩ ∧ vs[11]? = some (.ref T) ∧ (K w.params).lookup T = none ∧ (∀ (s : Shared) (u : Value), BindsTo s fd ⟨[u], []⟩ [(x, u)]) ∧
        (∀ (H : Hp) (a : Addr) (ns : List Int), ns.length ≤ n → H T = some (.tbl #[]) → SqL (K w.params) H a (ns.map V.int) → sp [.ref a] H (fun v _ => v = .bl true) fun _ _ _ => False) ∧
        ∀ base : Heap, (K w.params).In base → base.Ns mainGlobals mg → TabB base mg c T → FnG l.prog w (K w.params) mg base k fa fd [x] sp) :
    PySem.W.WalkO q loose XP YP l.row.toRowW d [] (fun f vs => PySem.call f vs) := by
  refine Att.attach_call hn hdf fun w s₀ s₁ mg mb fa o pm cd doc a vs ns G Y ho hd hcd hmg hobj hints hlen hg => ?_
  have kin := hY w _ Y
  obtain ⟨fd, T, c, o1, sp, e, dd, us, sl, k1, k2, k3, k4, k5, nT, h1, hs, h2⟩ := F w mg fa _ kin G.T.g hmg
  obtain ⟨dL, hm, hn1⟩ := List.any_eq_true.mp hrec
  have hn2' : dL.name = d.name := beq_iff_eq.mp hn1
  obtain ⟨a', o', fd', c', P', g1, g2, g3, g4, g5, g6⟩ := G.T.tab dL hm
  rw [hn2', hmg] at g1
  cases g1
  have q1 := kin _ _ k1
  rw [q1] at g2
  cases g2
  rw [k2] at g3
  cases g3
  rw [k3] at g4
  cases g4
  have hC := PySem.W.CodeHd.of g5 g6
  obtain ⟨⟨oc, vc, e1, _, e3, e4⟩, hP⟩ := g6
  have q2 := kin _ _ k4
  rw [q2] at e1
  cases e1
  cases e3
  rw [k5] at e4
  cases e4
  exact law_gT kin G.T.g G.T.b G.T.builtins G.T.nolimit hg hP nT hC G.T.bmain hobj hints (Nat.le_trans hlen hn2) hr h2 h1 fun H hHT hS => hs H a ns hlen hHT hS
end Hk
end S_We
section S_Ka
namespace P60
open PySem PySem.Spec PyProof.Rows L2 Tl Hk
def topS (i : Nat) : Stmt := PySem.Challenge.pw_threelanes_k60_labels_written_and_read.main.body.getD i (.Pass ⟨0, 0, 0, 0⟩)
abbrev sInteger : Stmt := topS 1
abbrev sWithin : Stmt := topS 2
abbrev sList : Stmt := topS 3
abbrev sRow : Stmt := topS 4
abbrev sNumberIn : Stmt := topS 11
abbrev sIsSeat : Stmt := topS 15
abbrev sIsLabel : Stmt := topS 19
abbrev sToldLabel : Stmt := topS 20
abbrev sLabelText : Stmt := topS 21
abbrev sAreTied : Stmt := topS 22
abbrev sLabelIn : Stmt := topS 23
abbrev sSayTied : Stmt := topS 24
abbrev sWanted : Stmt := topS 25
abbrev sSmallSeat : Stmt := topS 26
abbrev sNearPieces : Stmt := topS 27
abbrev sNearPiece : Stmt := topS 28
abbrev sSignOf : Stmt := topS 29
abbrev sTells : Stmt := topS 30
abbrev sTub : Stmt := topS 32
abbrev sScoop : Stmt := topS 33
abbrev sPick : Stmt := topS 34
abbrev sLNumber : Stmt := topS 35
abbrev sLRead : Stmt := topS 36
abbrev sLSigns : Stmt := topS 37
abbrev sLLabel : Stmt := topS 38
abbrev sLText : Stmt := topS 39
abbrev sHeard : Stmt := topS 40
abbrev sLBent : Stmt := topS 41
abbrev sLTextRight : Stmt := topS 42
abbrev sLPartsRight : Stmt := topS 43
abbrev sLaw : Stmt := topS 44
/-- a plain value and the name of its type -/
inductive Ty7 (K : PySem.W.Frag) (H : Hp) : V → String → Prop where
  | non : Ty7 K H .non "NoneType"
  | bl (b : Bool) : Ty7 K H (.bl b) "bool"
  | int (i : Int) : Ty7 K H (.int i) "int"
  | str (s : Str) : Ty7 K H (.str s) "str"
  | lst {a : Addr} {xs : List V} (h : SqL K H a xs) : Ty7 K H (.ref a) "list"
  | tup {a : Addr} {xs : List V} (h : SqT K H a xs) : Ty7 K H (.ref a) "tuple"
  | dK {a : Addr} {kvs : List (L2.Key × V)} (h : H a = some (.dK kvs)) : Ty7 K H (.ref a) "dict"
section
variable {K : PySem.W.Frag} {H H' : Hp} {x : V} {n : String}
theorem Ty7.tyx (h : Ty7 K H x n) : TyX K H x (.type n) := by
  cases h with
  | non => exact .base .non
  | bl b => exact .base (.bl b)
  | int i => exact .base (.int i)
  | str s => exact .base (.str s)
  | lst h =>
    rcases h with (h | ⟨o, h⟩) | ⟨o, its, m, h1, h2, _⟩
    · exact .base (.lst h)
    · exact .base (.frz h)
    · exact .kList h1 h2
  | tup h =>
    rcases h with (h | ⟨o, h⟩) | ⟨o, its, m, h1, h2, _⟩
    · exact .base (.tup h)
    · exact .fTuple h
    · exact .kTuple h1 h2
  | dK h => exact .base (.dK h)
theorem Ty7.ex (h : Ty7 K H x n) (e : Evl.Ex H H') : Ty7 K H' x n := by
  cases h with
  | non => exact .non
  | bl b => exact .bl b
  | int i => exact .int i
  | str s => exact .str s
  | lst h => exact .lst (Evl.ex_l e h)
  | tup h => exact .tup (Evl.ex_t e h)
  | dK h => exact .dK (e _ _ h)
/-- isinstance of one built-in class -/
def is7 (n c : String) : Bool := (L2.kitB n c).getD false
theorem Ty7.kit (h : Ty7 K H x n) {c : String} (hc : c = "int" ∨ c = "bool" ∨ c = "list" ∨ c = "tuple") : PySem.W.kitOne K (.type n) (.type c) = some (is7 n c) := by
  refine kit_ty ?_
  rcases hc with rfl | rfl | rfl | rfl <;> cases h <;> decide +kernel
theorem Ty7.isInt (h : Ty7 K H x n) : (is7 n "int" && !is7 n "bool") = decide (n = "int") := by
  cases h <;> decide +kernel
theorem Ty7.isSeq (h : Ty7 K H x n) : (is7 n "list" || is7 n "tuple") = (decide (n = "list") || decide (n = "tuple")) := by
  cases h <;> decide +kernel
theorem rc_isi (h : Ty7 K H x n) {c : String} (hc : c = "int" ∨ c = "bool" ∨ c = "list" ∨ c = "tuple") : Evl.RC (rIsi K) [x, .ty c] H (.bl (is7 n c)) :=
  fun H1 e _ q => ⟨x, .ty c, .type n, .type c, is7 n c, rfl, .ty c, (h.ex e).tyx, (h.ex e).kit hc, q H1 (Evl.Ex.refl H1)⟩
theorem rv_isN : Evl.RV (fun x y H Q => y = .non ∧ Q (.bl (decide (x = .non))) H) x .non H (.bl (decide (x = .non))) := fun H1 _ _ q => ⟨rfl, q H1 (Evl.Ex.refl H1)⟩
end
/-- None, or an integer -/
def Bnd : V → Prop
  | .non => True
  | .int _ => True
  | _ => False
def okLo : V → Int → Bool
  | .int j, i => decide (j ≤ i)
  | _, _ => true
def okHi : V → Int → Bool
  | .int j, i => decide (i ≤ j)
  | _, _ => true
/-- whether it is an integer within the bounds -/
def wi : V → V → V → Bool
  | .int i, lo, hi => okLo lo i && okHi hi i
  | _, _, _ => false
def spInteger (K : PySem.W.Frag) : Sp := fun vs H Q _ => ∃ (x : V) (n : String), vs = [x] ∧ Ty7 K H x n ∧ ∀ H1, Evl.Ex H H1 → Q (.bl (decide (n = "int"))) H1
theorem spv_integer {K : PySem.W.Frag} {H : Hp} {x : V} {n : String} (h : Ty7 K H x n) : Evl.SpV (spInteger K) [x] H (.bl (decide (n = "int"))) := fun H1 e Q q E => ⟨x, n, rfl, h.ex e, q⟩
def spWithin (K : PySem.W.Frag) : Sp := fun vs H Q _ => ∃ (x lo hi : V) (n : String), vs = [x, lo, hi] ∧ Ty7 K H x n ∧ Bnd lo ∧ Bnd hi ∧ ∀ H1, Evl.Ex H H1 → Q (.bl (wi x lo hi)) H1
theorem spv_within {K : PySem.W.Frag} {H : Hp} {x lo hi : V} {n : String} (h : Ty7 K H x n) (h1 : Bnd lo) (h2 : Bnd hi) : Evl.SpV (spWithin K) [x, lo, hi] H (.bl (wi x lo hi)) := fun H1 e Q q E => ⟨x, lo, hi, n, rfl, h.ex e, h1, h2, q⟩
def spList (K : PySem.W.Frag) : Sp := fun vs H Q _ => ∃ (x : V) (n : String), vs = [x] ∧ Ty7 K H x n ∧ ∀ H1, Evl.Ex H H1 → Q (.bl (decide (n = "list") || decide (n = "tuple"))) H1
theorem spv_list {K : PySem.W.Frag} {H : Hp} {x : V} {n : String} (h : Ty7 K H x n) : Evl.SpV (spList K) [x] H (.bl (decide (n = "list") || decide (n = "tuple"))) := fun H1 e Q q E => ⟨x, n, rfl, h.ex e, q⟩
theorem scInteger : FnScope ["value"] ["value"] (defScope sInteger) := ⟨rfl, rfl, rfl, by decide +kernel, rfl, by decide +kernel, by decide +kernel⟩
theorem scWithin : FnScope ["value", "least", "most"] ["value", "least", "most"] (defScope sWithin) := ⟨rfl, rfl, rfl, by decide +kernel, rfl, by decide +kernel, by decide +kernel⟩
theorem scList : FnScope ["value"] ["value"] (defScope sList) := ⟨rfl, rfl, rfl, by decide +kernel, rfl, by decide +kernel, by decide +kernel⟩
section
variable {P : Program} {w : World} {K : PySem.W.Frag} {mg : Str → Option Value} {base : Heap}
theorem ok_integer {f : Addr} {fd : FuncData} {k : Nat} (F : Fun K "is_integer" "is_integer" sInteger f fd) (mi : mg "isinstance" = none) (mint : mg "int" = none) (mbool : mg "bool" = none) : FnOk P w K mg base CX0 (k + 1) f fd ["value"] (spInteger K) := by
  refine F.ok scInteger (fun vs H Q E h => ?_) (fun cdv A outer s H vs Q E hr h => ?_)
  · obtain ⟨x, n, rfl, _⟩ := h
    rfl
  · obtain ⟨x, n, rfl, h, q⟩ := h
    refine ⟨_, pss_one (ps_ret (pe_and (pe_callB call_isi (by rfl) mi (by decide +kernel) (pa_cons (pv 0) (pa_cons (pe_bltn (v := .ty "int") (by rfl) mint (by decide +kernel) rfl) pa_nil)))
      (pe_one (pe_not (pe_callB call_isi (by rfl) mi (by decide +kernel) (pa_cons (pv 0) (pa_cons (pe_bltn (v := .ty "bool") (by rfl) mbool (by decide +kernel) rfl) pa_nil))))))), ?_⟩
    refine Evl.s_ret (v := .bl (is7 n "int" && !is7 n "bool")) (Evl.ev_andV (Evl.ev_cb (Evl.ea_cons (Evl.ev_var rfl) (Evl.ea_cons Evl.ev_c Evl.ea_nil)) (rc_isi h (.inl rfl))) fun _ =>
      Evl.ev_notV (Evl.ev_cb (Evl.ea_cons (Evl.ev_var rfl) (Evl.ea_cons Evl.ev_c Evl.ea_nil)) (rc_isi h (.inr (.inl rfl))))) fun H1 e1 => ?_
    rw [h.isInt]
    exact q H1 e1
theorem ok_list {f : Addr} {fd : FuncData} {k : Nat} (F : Fun K "is_list" "is_list" sList f fd) (mi : mg "isinstance" = none) (ml : mg "list" = none) (mt : mg "tuple" = none) : FnOk P w K mg base CX0 (k + 1) f fd ["value"] (spList K) := by
  refine F.ok scList (fun vs H Q E h => ?_) (fun cdv A outer s H vs Q E hr h => ?_)
  · obtain ⟨x, n, rfl, _⟩ := h
    rfl
  · obtain ⟨x, n, rfl, h, q⟩ := h
    refine ⟨_, pss_one (ps_ret (pe_callB call_isiT (by rfl) mi (by decide +kernel) (pa_cons (pv 0) (pa_cons (pe_tup (pa_cons (pe_bltn (v := .ty "list") (by rfl) ml (by decide +kernel) rfl) (pa_cons (pe_bltn (v := .ty "tuple") (by rfl) mt (by decide +kernel) rfl) pa_nil))) pa_nil)))), ?_⟩
    refine ⟨x, rfl, (by show 2 ≤ sizeLine; decide), fun T hT => ⟨x, T, [.ty "list", .ty "tuple"], .type n, [.type "list", .type "tuple"], is7 n "list" || is7 n "tuple", rfl, upd_same, .cons (.ty _) (.cons (.ty _) .nil), (h.ex (Evl.Ex.new hT)).tyx, ?_, ?_⟩⟩
    · refine kitAny_cons (h.kit (.inr (.inr (.inl rfl)))) (fun hb => kitAny_cons (h.kit (.inr (.inr (.inr rfl)))) (fun hb2 => ?_) fun hb2 => ?_) fun hb => ?_
      · rw [hb, hb2]; exact kitAny_nil
      · rw [hb2, Bool.or_true]
      · rw [hb, Bool.true_or]
    · show Q _ _
      rw [h.isSeq]
      exact q _ (Evl.Ex.new hT)
theorem ok_within {f fI : Addr} {fd fdI : FuncData} {k : Nat} (F : Fun K "is_within" "is_within" sWithin f fd) (FI : Fun K "is_integer" "is_integer" sInteger fI fdI) (GI : FnOk P w K mg base CX0 k fI fdI ["value"] (spInteger K)) (bI : Binds K fdI ["value"] []) (gI : mg "is_integer" = some (.ref fI)) :
    FnOk P w K mg base CX0 (k + 1) f fd ["value", "least", "most"] (spWithin K) := by
  refine F.ok scWithin (fun vs H Q E h => ?_) (fun cdv A outer s H vs Q E hr h => ?_)
  · obtain ⟨x, lo, hi, n, rfl, _⟩ := h
    rfl
  · obtain ⟨x, lo, hi, n, rfl, h, hlo, hhi, q⟩ := h
    refine ⟨_, pss_cons (ps_if (pt_not (pt_val (pe_call GI hr (by rfl) gI FI.kp bI .nil pass0 (pa_cons (pv 0) pa_nil)))) (pss_one (ps_ret pe_bl)) pss_nil)
      (pss_one (ps_ret (pe_and (pe_or (pe_cmpR op_isN (pv 1) pe_non (nomark _)) (pe_one (pe_cmpR op_ge (pv 0) (pv 1) (nomark _)))) (pe_one (pe_or (pe_cmpR op_isN (pv 2) pe_non (nomark _)) (pe_one (pe_cmpR op_le (pv 0) (pv 2) (nomark _)))))))), ?_⟩
    refine Evl.q_when (Evl.et_not (Evl.et_B (Evl.ev_call (Evl.ea_cons (Evl.ev_var rfl) Evl.ea_nil) (spv_integer h)))) (fun hb H1 e1 => ?_) (fun hb H1 e1 => ?_)
    · refine Evl.s_ret Evl.ev_c fun H2 e2 => ?_
      have hw : wi x lo hi = false := by
        cases h with
        | int i => exact absurd hb (by decide)
        | _ => rfl
      rw [← hw]
      exact q H2 (e1.trans e2)
    · cases h with
      | int i =>
        have hA : Evl.Ev (tOrV (tOp (fun x y H Q => y = .non ∧ Q (.bl (decide (x = .non))) H) (tVar 1) (tC .non)) (tOp (rI0 fun i j => V.bl (decide (j ≤ i))) (tVar 0) (tVar 1))) (start ["value", "least", "most"] [.int i, lo, hi]) H1 (.bl (okLo lo i)) := by
          cases lo with
          | non => exact Evl.ev_is (Evl.ev_orV (b := true) (Evl.ev_op (Evl.ev_var rfl) Evl.ev_c rv_isN) fun z => absurd z (by decide)) rfl
          | int j => exact Evl.ev_is (Evl.ev_orV (Evl.ev_op (Evl.ev_var rfl) Evl.ev_c rv_isN) fun _ => Evl.ev_op (Evl.ev_var rfl) (Evl.ev_var rfl) Evl.rv_I0) (by rw [show decide (V.int j = V.non) = false from rfl] <;> rfl)
          | _ => exact hlo.elim
        have hB : Evl.Ev (tOrV (tOp (fun x y H Q => y = .non ∧ Q (.bl (decide (x = .non))) H) (tVar 2) (tC .non)) (tOp (rI0 fun i j => V.bl (decide (i ≤ j))) (tVar 0) (tVar 2))) (start ["value", "least", "most"] [.int i, lo, hi]) H1 (.bl (okHi hi i)) := by
          cases hi with
          | non => exact Evl.ev_is (Evl.ev_orV (b := true) (Evl.ev_op (Evl.ev_var rfl) Evl.ev_c rv_isN) fun z => absurd z (by decide)) rfl
          | int j => exact Evl.ev_is (Evl.ev_orV (Evl.ev_op (Evl.ev_var rfl) Evl.ev_c rv_isN) fun _ => Evl.ev_op (Evl.ev_var rfl) (Evl.ev_var rfl) Evl.rv_I0) (by rw [show decide (V.int j = V.non) = false from rfl] <;> rfl)
          | _ => exact hhi.elim
        exact Evl.s_ret (Evl.ev_andV hA fun _ => hB) fun H2 e2 => q H2 (e1.trans e2)
      | _ => exact absurd hb (by decide)
end

theorem ev_allN {K : PySem.W.Frag} {ta : TE} {σ : L2.St} {H : Hp} {bs : List Bool} (h : Evl.EvL ta σ H (bs.map V.bl)) : Evl.Ev (tCB (rAll K) (tCons ta tNil)) σ H (.bl (bs.all id)) := fun H1 e Q q =>
  h H1 e _ fun p H2 _ e2 h2 => ⟨p, bs, rfl, Evl.sq_of h2, q H2 e2⟩
/-- a comprehension over a tuple that stands -/
theorem el_lcT {K : PySem.W.Frag} {a : Addr} {xs : List V} {tl te : TE} {t : TT} {σ : L2.St} {H : Hp} {j : Nat} {vs : List Nat} (f : Nat → Bool) (v : Nat → V) (h : Evl.Ev tl σ H (.ref a)) (hx : SqT K H a xs) (hz : xs.length ≤ 40000)
    (hw : ∀ x, wipe ((wipe σ vs).set j (some x)) vs = wipe σ vs) (ht : ∀ (i : Nat) (x : V) H1, Evl.Ex H H1 → xs[i]? = some x → Evl.EvT t ((wipe σ vs).set j (some x)) H1 (f i))
    (he : ∀ (i : Nat) (x : V) H1, Evl.Ex H H1 → xs[i]? = some x → f i = true → Evl.Ev te ((wipe σ vs).set j (some x)) H1 (v i)) : Evl.EvL (tLc (iTup K tl) (gName j) t te vs) σ H (Evl.given xs.length f v) := by
  intro H0 e Q q
  refine h H0 e _ fun H1 e1 => ⟨a, rfl, ⟨xs, Evl.ex_t (e.trans e1) hx⟩, fun Dl hD => lc_tup (xs := xs) (Evl.Cw H1 f v Dl) ⟨hD, Evl.Ex.new hD, upd_same⟩ (fun i H' _ p => Evl.ex_t ((e.trans e1).trans p.2.1) hx) (fun i x H' hi p => ⟨hw x, ?_⟩) fun H' p => q Dl H' (Evl.fresh_back e1 p.1) (e1.trans p.2.1) p.2.2⟩
  have hlt := (List.getElem?_eq_some_iff.mp hi).1
  exact Evl.cw_turn p (by omega) (ht i x H1 (e.trans e1) hi) fun hf => he i x H1 (e.trans e1) hi hf

end P60
end S_Ka
section S_Kb
namespace P60
open PySem PySem.Spec PyProof.Rows L2 Tl Hk
theorem scScoop : FnScope ["tagger", "many", "rest", "at", "cell", "mixed"] ["tagger", "many"] (defScope sScoop) := ⟨rfl, rfl, rfl, by decide +kernel, rfl, by decide +kernel, by decide +kernel⟩

/-- all but the object at t is as it was -/
def Kept (t : Addr) (H H' : Hp) : Prop := ∀ a o, a ≠ t → H a = some o → H' a = some o
theorem Kept.refl (t : Addr) (H : Hp) : Kept t H H := fun _ _ _ h => h
theorem Kept.trans {t : Addr} {H H1 H2 : Hp} (a : Kept t H H1) (b : Kept t H1 H2) : Kept t H H2 := fun x o n h => b x o n (a x o n h)
theorem Kept.of {t : Addr} {H H' : Hp} (e : Same H H') : Kept t H H' := fun x o _ h => e x o h
theorem Kept.upd (t : Addr) (H : Hp) (o : HO) : Kept t H (upd H t o) := fun a u n e => by
  rw [upd_ne n]
  exact e
theorem Kept.seq {K : PySem.W.Frag} {t : Addr} {H H' : Hp} {c : Addr} {xs : List V} (k : Kept t H H') (n : c ≠ t) (h : SqL K H c xs) : SqL K H' c xs := by
  rcases h with (h | ⟨o, h⟩) | h
  · exact .inl (.inl (k _ _ n h))
  · exact .inl (.inr ⟨o, k _ _ n h⟩)
  · exact .inr h
/-- the drawer of numbers at t: its cells at c, its turn of n at most, its rest -/
def Tub (H : Hp) (t c : Addr) (n : Nat) : Prop := ∃ (cs : List Int) (turn rest : Int),
  H t = some (.lst [.ref c, .int turn, .int rest]) ∧ H c = some (.lst (cs.map V.int)) ∧ c ≠ t ∧ cs.length ≤ 62 ∧ 0 ≤ turn ∧ turn ≤ n ∧ 0 ≤ rest
theorem Tub.mono {H : Hp} {t c : Addr} {n m : Nat} (T : Tub H t c n) (h : n ≤ m) : Tub H t c m := by
  obtain ⟨cs, turn, rest, h1, h2, h3, h4, h5, h6, h7⟩ := T
  exact ⟨cs, turn, rest, h1, h2, h3, h4, h5, by omega, h7⟩
theorem Tub.same {H H' : Hp} {t c : Addr} {n : Nat} (T : Tub H t c n) (e : Same H H') : Tub H' t c n := by
  obtain ⟨cs, turn, rest, h1, h2, h3, h4, h5, h6, h7⟩ := T
  exact ⟨cs, turn, rest, e _ _ h1, e _ _ h2, h3, h4, h5, h6, h7⟩
theorem Tub.ne {H : Hp} {t c p : Addr} {n : Nat} (T : Tub H t c n) (h : H p = none) : p ≠ t ∧ p ≠ c := by
  obtain ⟨cs, turn, rest, h1, h2, _⟩ := T
  exact ⟨(ne_of_none h1 h).symm, (ne_of_none h2 h).symm⟩
/-- an object that is neither of the drawer's two may change -/
theorem Tub.upd {H : Hp} {t c p : Addr} {n : Nat} {o : HO} (T : Tub H t c n) (h1 : p ≠ t) (h2 : p ≠ c) : Tub (upd H p o) t c n := by
  obtain ⟨cs, turn, rest, a1, a2, h⟩ := T
  refine ⟨cs, turn, rest, ?_, ?_, h⟩
  · rw [upd_ne h1.symm]
    exact a1
  · rw [upd_ne h2.symm]
    exact a2
theorem same_new {H : Hp} {p : Addr} {o : HO} (h : H p = none) : Same H (upd H p o) := fun b x e => by
  rw [upd_ne (ne_of_none e h)]
  exact e

open Evl in
theorem kept_ex {t : Addr} {H H' : Hp} (e : Evl.Ex H H') : Kept t H H' := fun x o _ h => e x o h
theorem Tub.ex {H H' : Hp} {t c : Addr} {n : Nat} (T : Tub H t c n) (e : Evl.Ex H H') : Tub H' t c n := T.same e
section
open Evl
variable {K : PySem.W.Frag} {σ : L2.St} {H H' : Hp} {ta tb te : TE} {x y z v : V}
theorem ev_int {i : Int} (h : Ev ta σ H (.int i)) : Ev (tCB (fun xs H Q => (∃ i, xs = [V.int i] ∧ Q (V.int i) H) ∨ ∃ k, xs = [V.bl k] ∧ Q (V.int (if k = true then 1 else 0)) H) (tCons ta tNil)) σ H (.int i) :=
  ev_cb (ea_cons h ea_nil) fun H1 _ _ q => .inl ⟨i, rfl, q H1 (Ex.refl H1)⟩
theorem ev_intB {b : Bool} (h : Ev ta σ H (.bl b)) : Ev (tCB (fun xs H Q => (∃ i, xs = [V.int i] ∧ Q (V.int i) H) ∨ ∃ k, xs = [V.bl k] ∧ Q (V.int (if k = true then 1 else 0)) H) (tCons ta tNil)) σ H (.int (if b = true then 1 else 0)) :=
  ev_cb (ea_cons h ea_nil) fun H1 _ _ q => .inr ⟨b, rfl, q H1 (Ex.refl H1)⟩
theorem ev_abs {i : Int} (h : Ev ta σ H (.int i)) : Ev (tCB (fun xs H Q => ∃ i, xs = [V.int i] ∧ Q (V.int (if i < 0 then -i else i)) H) (tCons ta tNil)) σ H (.int (if i < 0 then -i else i)) :=
  ev_cb (ea_cons h ea_nil) fun H1 _ _ q => ⟨i, rfl, q H1 (Ex.refl H1)⟩
theorem dp_ints {c : Addr} : ∀ (cs : List Int), DpAll K H (cs.map V.int) (cs.map PyData.int)
  | [] => .nil
  | i :: r => .cons (.int i) (dp_ints (c := c) r)
/-- a list of ints is not the empty one -/
theorem ev_neNil {c : Addr} {cs : List Int} (h : Ev ta σ H (.ref c)) (hc : SqL K H c (cs.map V.int)) : Ev (tOp (rNeD K) ta (tLst tNil)) σ H (.bl (!cs.isEmpty)) :=
  ev_opL (xs := []) h (el_lst ea_nil (Nat.zero_le _)) fun p H1 hp e => fun H2 e2 Q q => by
    refine ⟨.list (cs.map PyData.int), .list [], .lst (ex_l (e.trans e2) hc) (dp_ints (c := c) cs), .lst (sq_of (e2 _ _ hp)) .nil, PySem.W.ke_shaped_ints cs, by decide +kernel, ?_⟩
    have e3 : PyData.eqv (.list (cs.map PyData.int)) (.list []) = cs.isEmpty := by cases cs <;> rfl
    rw [e3]
    exact q H2 (Ex.refl H2)
theorem fmod_pos {a b : Int} (hb : 1 ≤ b) : 0 ≤ a.fmod b ∧ a.fmod b < b := by
  rw [Int.fmod_eq_emod_of_nonneg a (by omega)]
  exact ⟨Int.emod_nonneg _ (by omega), Int.emod_lt_of_pos _ (by omega)⟩
theorem fdiv_pos {a b : Int} (ha : 0 ≤ a) (hb : 1 ≤ b) : 0 ≤ a.fdiv b := by
  rw [Int.fdiv_eq_ediv_of_nonneg a (by omega)]
  exact Int.ediv_nonneg ha (by omega)
theorem mix_a {x turn : Int} (hx0 : 0 ≤ x) (hx : x < 2147483648) (h0 : 0 ≤ turn) (h1 : turn ≤ 1000000) : (x + 42848 * turn + 9136).natAbs < 2 ^ 64 := by omega
theorem mix_b {m turn : Int} (hm0 : 0 ≤ m) (hm : m < 2147483648) (h0 : 0 ≤ turn) (h1 : turn ≤ 1000000) : (m * (2 * turn + 6630) + 63144 * turn * turn + 42848).natAbs < 2 ^ 64 := by
  have a1 : m * (2 * turn + 6630) ≤ 2147483648 * 2006630 := Int.mul_le_mul (by omega) (by omega) (by omega) (by omega)
  have a2 : 0 ≤ m * (2 * turn + 6630) := Int.mul_nonneg hm0 (by omega)
  have b1 : 63144 * turn * turn ≤ 63144000000 * 1000000 := Int.mul_le_mul (by omega) (by omega) (by omega) (by omega)
  have b2 : 0 ≤ 63144 * turn * turn := Int.mul_nonneg (by omega) (by omega)
  generalize m * (2 * turn + 6630) = p at *
  generalize 63144 * turn * turn = r at *
  omega
theorem cell_at (cs : List Int) (turn d : Int) (h0 : 0 ≤ turn) : ∃ z, (cs.isEmpty = false → atI (cs.map V.int) (turn.fmod ((cs.map V.int).length : Int)) = some (.int z)) ∧ (cs.isEmpty = true → z = d) := by
  cases cs with
  | nil => exact ⟨d, fun h => (nomatch h), fun _ => rfl⟩
  | cons x r =>
    have hb := fmod_pos (a := turn) (b := (((x :: r).map V.int).length : Int)) (by rw [List.length_map, List.length_cons]; omega)
    obtain ⟨j, hj⟩ : ∃ j : Nat, turn.fmod (((x :: r).map V.int).length : Int) = (j : Int) := ⟨(turn.fmod (((x :: r).map V.int).length : Int)).toNat, by omega⟩
    rw [hj] at hb ⊢
    have hl : j < (x :: r).length := by
      rw [List.length_map] at hb
      omega
    refine ⟨(x :: r)[j], fun _ => atI_nat ?_, fun h => (nomatch h)⟩
    rw [List.getElem?_map, List.getElem?_eq_getElem hl]
    rfl
end

def spScoop : Sp := fun vs H Q _ => ∃ (t c : Addr) (many : Int) (n : Nat), vs = [.ref t, .int many] ∧ Tub H t c n ∧ n ≤ 1000000 ∧ 1 ≤ many ∧ many ≤ 100000 ∧
  ∀ r H', 0 ≤ r → r < many → Kept t H H' → Tub H' t c (n + 1) → Q (.int r) H'
section
variable {P : Program} {w : World} {K : PySem.W.Frag} {mg : Str → Option Value} {base : Heap}
theorem ok_scoop {f : Addr} {fd : FuncData} {k : Nat} (F : Fun K "_law_stamp" "_law_stamp" sScoop f fd) (mint : mg "int" = none) (mlen : mg "len" = none) (mabs : mg "abs" = none) : FnOk P w K mg base CX0 (k + 1) f fd ["tagger", "many"] spScoop := by
  refine F.ok scScoop (fun vs H Q E h => ?_) (fun cdv A outer s H vs Q E hr h => ?_)
  · obtain ⟨t, c, m, n, rfl, _⟩ := h
    rfl
  · obtain ⟨t, c, many, n, rfl, hT, hn, hm1, hm2, q⟩ := h
    have nd := scScoop.nd
    refine ⟨_, pss_cons (ps_if (pt_cmpR op_gt (pe_ix ix_list (pv 0) pe_int (fun _ _ => rfl)) pe_int (nomark _))
        (pss_cons (ps_set (i := 2) nd rfl (.inl rfl) (pe_callTy call_int1 (by rfl) mint (by decide +kernel) (pa_cons (pe_ix ix_list (pv 0) pe_int (fun _ _ => rfl)) pa_nil)))
        (pss_cons (ps_asg (pe_op op_fdivN (pv 2) (pv 1)) (pg_sub (pv 0) pe_int set_list))
        (pss_one (ps_ret (pe_op op_modN (pe_callTy call_int1 (by rfl) mint (by decide +kernel) (pa_cons (pv 2) pa_nil)) (pv 1)))))) pss_nil)
      (pss_cons (ps_set (i := 3) nd rfl (.inl rfl) (pe_ix ix_list (pv 0) pe_int (fun _ _ => rfl)))
      (pss_cons (ps_asg (pe_op op_add (pv 3) pe_int) (pg_sub (pv 0) pe_int set_list))
      (pss_cons (ps_set (i := 4) nd rfl (.inl rfl) (pe_op op_add (pe_op op_mul pe_int (pv 3)) pe_int))
      (pss_cons (ps_if (pt_cmpR (op_neD hr.units) (pe_ix ix_list (pv 0) pe_int (fun _ _ => rfl)) (pe_lst pa_nil) (nomark _))
        (pss_one (ps_set (i := 4) nd rfl (.inl rfl) (pe_ix ix_list (pe_ix ix_list (pv 0) pe_int (fun _ _ => rfl)) (pe_op op_modN (pe_callTy call_int1 (by rfl) mint (by decide +kernel) (pa_cons (pv 3) pa_nil)) (pe_callB call_len_seq (by rfl) mlen PySem.boot_len (pa_cons (pe_ix ix_list (pv 0) pe_int (fun _ _ => rfl)) pa_nil))) (fun _ _ => rfl)))) pss_nil)
      (pss_cons (ps_if (PW.pt (pw_and (pt_cmpR op_lt (pv 3) (pe_callB call_len_seq (by rfl) mlen PySem.boot_len (pa_cons (pe_ix ix_list (pv 0) pe_int (fun _ _ => rfl)) pa_nil)) (nomark _)) (pw_and1 (pt_cmpR op_ge (pe_callB call_abs (by rfl) mabs (by decide +kernel) (pa_cons (pv 4) pa_nil)) (pe_op op_pow pe_int pe_int) (nomark _)))))
        (pss_cons (ps_set (i := 2) nd rfl (.inl rfl) (pe_op op_add (pe_op op_mul pe_int (pe_op op_sub (pe_callB call_abs (by rfl) mabs (by decide +kernel) (pa_cons (pv 4) pa_nil)) (pe_op op_pow pe_int pe_int))) (pe_callTy call_int1 (by rfl) mint (by decide +kernel) (pa_cons (pe_cmpR op_lt (pv 4) pe_int (nomark _)) pa_nil))))
        (pss_cons (ps_asg (pe_op op_fdivN (pe_callTy call_int1 (by rfl) mint (by decide +kernel) (pa_cons (pv 2) pa_nil)) (pv 1)) (pg_sub (pv 0) pe_int set_list))
        (pss_one (ps_ret (pe_op op_modN (pe_callTy call_int1 (by rfl) mint (by decide +kernel) (pa_cons (pv 2) pa_nil)) (pv 1)))))) pss_nil)
      (pss_cons (ps_set (i := 5) nd rfl (.inl rfl) (pe_op op_modN (pe_callTy call_int1 (by rfl) mint (by decide +kernel) (pa_cons (pe_op op_pow (pe_op op_add (pe_op op_add (pe_op op_modN (pe_callTy call_int1 (by rfl) mint (by decide +kernel) (pa_cons (pv 4) pa_nil)) pe_int) (pe_op op_mul pe_int (pv 3))) pe_int) pe_int) pa_nil)) pe_int))
      (pss_cons (ps_set (i := 5) nd rfl (.inl rfl) (pe_op op_modN (pe_callTy call_int1 (by rfl) mint (by decide +kernel) (pa_cons (pe_op op_pow (pe_op op_add (pe_op op_add (pe_op op_mul (pv 5) (pe_op op_add (pe_op op_mul pe_int (pv 3)) pe_int)) (pe_op op_mul (pe_op op_mul pe_int (pv 3)) (pv 3))) pe_int) pe_int) pa_nil)) pe_int))
      (pss_one (ps_ret (pe_op op_modN (pe_callTy call_int1 (by rfl) mint (by decide +kernel) (pa_cons (pe_op op_fdivN (pv 5) pe_int) pa_nil)) (pv 1))))))))))), ?_⟩
    obtain ⟨cs, turn, rest, ht, hc, hct, hcl, hu0, hun, hr0⟩ := hT
    have tubAt : ∀ {σ : L2.St} {H' : Hp} {j : Nat} {v : V} {xs : List V}, σ[0]? = some (some (.ref t)) → H' t = some (.lst xs) → xs[j]? = some v → Evl.Ev (tOp (rIxL K) (tVar 0) (tC (.int (j : Int)))) σ H' v :=
      fun hs h hv => Evl.ev_op (Evl.ev_var hs) Evl.ev_c (Evl.rv_ixL (Evl.sq_of h) (atI_nat hv))
    have turnS : turn ≤ 1000000 := by omega
    refine Evl.q_when (b := decide (0 < rest)) (Evl.et_test (Evl.ev_op (tubAt (j := 2) rfl ht rfl) Evl.ev_c Evl.rv_I0)) (fun hb H1 e1 => ?_) (fun hb H1 e1 => ?_)
    · refine Evl.q_asg (ev_int (tubAt (j := 2) rfl (e1 _ _ ht) rfl)) fun H2 e2 => ?_
      refine Evl.q_setL (l := t) (j := 2) (e2 _ _ (e1 _ _ ht)) (Evl.ev_op (Evl.ev_var rfl) (Evl.ev_var rfl) (Evl.rv_I ⟨by omega, by omega⟩)) (Evl.ev_var rfl) Evl.ev_c (by show 2 < 3; omega) fun H3 e3 => ?_
      refine Evl.s_ret (Evl.ev_op (ev_int (Evl.ev_var rfl)) (Evl.ev_var rfl) (Evl.rv_I (by omega))) fun H4 e4 => ?_
      have e13 := (e1.trans e2).trans e3
      refine q _ _ (fmod_pos hm1).1 (fmod_pos hm1).2 (((kept_ex e13).trans (Kept.upd t H3 _)).trans (kept_ex e4)) (Tub.ex ?_ e4)
      exact ⟨cs, turn, rest.fdiv many, upd_same, Kept.upd t H3 _ _ _ hct (e13 _ _ hc), hct, hcl, hu0, by omega, fdiv_pos hr0 hm1⟩
    · refine Evl.q_asg (tubAt (j := 1) rfl (e1 _ _ ht) rfl) fun H2 e2 => ?_
      refine Evl.q_setL (l := t) (j := 1) (e2 _ _ (e1 _ _ ht)) (Evl.ev_op (Evl.ev_var rfl) Evl.ev_c Evl.rv_I0) (Evl.ev_var rfl) Evl.ev_c (by show 1 < 3; omega) fun H3 e3 => ?_
      have e13 := (e1.trans e2).trans e3
      have k3 : Kept t H (upd H3 t (.lst [.ref c, .int (turn + 1), .int rest])) := (kept_ex e13).trans (Kept.upd t H3 _)
      have h3 : (upd H3 t (.lst [.ref c, .int (turn + 1), .int rest])) t = some (.lst [.ref c, .int (turn + 1), .int rest]) := upd_same
      show tSeq _ _ _ _ (upd H3 t (.lst [.ref c, .int (turn + 1), .int rest]))
      generalize upd H3 t (.lst [.ref c, .int (turn + 1), .int rest]) = H3' at k3 h3 ⊢
      have hc3 : H3' c = some (.lst (cs.map V.int)) := k3 _ _ hct hc
      obtain ⟨cell, z1, z2⟩ := cell_at cs turn (63144 * turn + 9136) hu0
      refine Evl.q_asg (Evl.ev_op (Evl.ev_op Evl.ev_c (Evl.ev_var rfl) (Evl.rv_I (.inl ⟨by omega, by omega⟩))) Evl.ev_c Evl.rv_I0) fun H4 e4 => ?_
      refine Evl.q_ifAsg (b := !cs.isEmpty) (v := .int cell) (Evl.et_test (ev_neNil (tubAt (j := 0) rfl (e4 _ _ h3) rfl) (Evl.sq_of (e4 _ _ hc3))))
        (fun hb => ?_) (fun hb => ?_) fun H5 e5 => ?_
      · have hce : cs.isEmpty = false := by
          cases hq : cs.isEmpty with
          | true => rw [hq] at hb; cases hb
          | false => rfl
        have hne : ((cs.map V.int).length : Int) ≠ 0 := by
          rw [List.length_map]
          cases cs with
          | nil => cases hce
          | cons x r => rw [List.length_cons]; omega
        exact Evl.ev_op (tubAt (j := 0) rfl (e4 _ _ h3) rfl) (Evl.ev_op (ev_int (Evl.ev_var rfl)) (Evl.ev_len (tubAt (j := 0) rfl (e4 _ _ h3) rfl) (Evl.sq_of (e4 _ _ hc3))) (Evl.rv_I hne)) (Evl.rv_ixL (Evl.sq_of (e4 _ _ hc3)) (z1 hce))
      · have hce : cs.isEmpty = true := by
          cases hq : cs.isEmpty with
          | true => rfl
          | false => rw [hq] at hb; cases hb
        rw [z2 hce]
        rfl
      have e35 := e4.trans e5
      have k5 : Kept t H H5 := k3.trans (kept_ex e35)
      have h5 := e35 _ _ h3
      have hc5 := e35 _ _ hc3
      clear e4 e5 e35 h3 hc3 k3 e1 e2 e3 e13
      refine Evl.q_when (Evl.et_and (Evl.et_test (Evl.ev_op (Evl.ev_var rfl) (Evl.ev_len (tubAt (j := 0) rfl h5 rfl) (Evl.sq_of hc5)) Evl.rv_I0)) fun _ => Evl.et_test (Evl.ev_op (ev_abs (Evl.ev_var rfl)) (Evl.ev_op Evl.ev_c Evl.ev_c (Evl.rv_I ⟨by decide, by decide, by decide⟩)) Evl.rv_I0)) (fun hb H6 e6 => ?_) (fun hb H6 e6 => ?_)
      · have hb2 := (Bool.and_eq_true_iff.mp hb).2
        have hbig : (10 : Int) ^ 18 ≤ (if cell < 0 then -cell else cell) := of_decide_eq_true hb2
        refine Evl.q_asg (Evl.ev_op (Evl.ev_op Evl.ev_c (Evl.ev_op (ev_abs (Evl.ev_var rfl)) (Evl.ev_op Evl.ev_c Evl.ev_c (Evl.rv_I ⟨by decide, by decide, by decide⟩)) Evl.rv_I0) (Evl.rv_I (.inl ⟨by decide, by decide⟩))) (ev_intB (Evl.ev_op (Evl.ev_var rfl) Evl.ev_c Evl.rv_I0)) Evl.rv_I0) fun H7 e7 => ?_
        have hr2 : (0 : Int) ≤ 2 * ((if cell < 0 then -cell else cell) - 10 ^ (18 : Int).toNat) + (if decide (cell < 0) = true then 1 else 0) := by
          have e18 : (18 : Int).toNat = 18 := rfl
          rw [e18]
          split <;> omega
        generalize (2 * ((if cell < 0 then -cell else cell) - 10 ^ (18 : Int).toNat) + (if decide (cell < 0) = true then 1 else 0) : Int) = rest2 at hr2 ⊢
        refine Evl.q_setL (l := t) (j := 2) (e7 _ _ (e6 _ _ h5)) (Evl.ev_op (ev_int (Evl.ev_var rfl)) (Evl.ev_var rfl) (Evl.rv_I ⟨by omega, by omega⟩)) (Evl.ev_var rfl) Evl.ev_c (by show 2 < 3; omega) fun H8 e8 => ?_
        refine Evl.s_ret (Evl.ev_op (ev_int (Evl.ev_var rfl)) (Evl.ev_var rfl) (Evl.rv_I (by omega))) fun H9 e9 => ?_
        have e68 := (e6.trans e7).trans e8
        refine q _ _ (fmod_pos hm1).1 (fmod_pos hm1).2 (((k5.trans (kept_ex e68)).trans (Kept.upd t H8 _)).trans (kept_ex e9)) (Tub.ex ?_ e9)
        exact ⟨cs, turn + 1, rest2.fdiv many, upd_same, Kept.upd t H8 _ _ _ hct (e68 _ _ hc5), hct, hcl, by omega, by omega, fdiv_pos hr2 hm1⟩
      · have c1 := fmod_pos (a := cell) (b := 2147483563) (by decide)
        refine Evl.q_asg (Evl.ev_op (ev_int (Evl.ev_op (Evl.ev_op (Evl.ev_op (Evl.ev_op (ev_int (Evl.ev_var rfl)) Evl.ev_c (Evl.rv_I (by decide))) (Evl.ev_op Evl.ev_c (Evl.ev_var rfl) (Evl.rv_I (.inl ⟨by decide, by decide⟩))) Evl.rv_I0) Evl.ev_c Evl.rv_I0) Evl.ev_c (Evl.rv_I ⟨by decide, by decide, mix_a c1.1 (by omega) hu0 turnS⟩))) Evl.ev_c (Evl.rv_I (by decide))) fun H7 e7 => ?_
        have m1 := fmod_pos (a := (cell.fmod 2147483563 + 42848 * turn + 9136) ^ (5 : Int).toNat) (b := 2147483629) (by decide)
        generalize ((cell.fmod 2147483563 + 42848 * turn + 9136) ^ (5 : Int).toNat).fmod 2147483629 = mx at m1 ⊢
        refine Evl.q_asg (Evl.ev_op (ev_int (Evl.ev_op (Evl.ev_op (Evl.ev_op (Evl.ev_op (Evl.ev_var rfl) (Evl.ev_op (Evl.ev_op Evl.ev_c (Evl.ev_var rfl) (Evl.rv_I (.inl ⟨by decide, by decide⟩))) Evl.ev_c Evl.rv_I0) (Evl.rv_I (.inl ⟨by omega, by omega⟩))) (Evl.ev_op (Evl.ev_op Evl.ev_c (Evl.ev_var rfl) (Evl.rv_I (.inl ⟨by decide, by decide⟩))) (Evl.ev_var rfl) (Evl.rv_I (.inl ⟨by omega, by omega⟩))) Evl.rv_I0) Evl.ev_c Evl.rv_I0) Evl.ev_c (Evl.rv_I ⟨by decide, by decide, mix_b m1.1 (by omega) hu0 turnS⟩))) Evl.ev_c (Evl.rv_I (by decide))) fun H8 e8 => ?_
        refine Evl.s_ret (Evl.ev_op (ev_int (Evl.ev_op (Evl.ev_var rfl) Evl.ev_c (Evl.rv_I ⟨by decide, by decide⟩))) (Evl.ev_var rfl) (Evl.rv_I (by omega))) fun H9 e9 => ?_
        have e69 := ((e6.trans e7).trans e8).trans e9
        exact q _ _ (fmod_pos hm1).1 (fmod_pos hm1).2 (k5.trans (kept_ex e69)) ⟨cs, turn + 1, rest, e69 _ _ h5, e69 _ _ hc5, hct, hcl, by omega, by omega, hr0⟩
end

theorem scPick : FnScope ["tagger", "some"] ["tagger", "some"] (defScope sPick) := ⟨rfl, rfl, rfl, by decide +kernel, rfl, by decide +kernel, by decide +kernel⟩
theorem scTub : FnScope ["script", "cell"] ["script"] (defScope sTub) := ⟨rfl, rfl, rfl, by decide +kernel, rfl, by decide +kernel, by decide +kernel⟩
/-- an item at a drawn place -/
theorem at_drawn {xs : List V} {r : Int} (h0 : 0 ≤ r) (h1 : r < (xs.length : Int)) : ∃ (j : Nat) (v : V), xs[j]? = some v ∧ atI xs r = some v := by
  obtain ⟨j, rfl⟩ : ∃ j : Nat, r = (j : Int) := ⟨r.toNat, by omega⟩
  have hj : j < xs.length := by omega
  exact ⟨j, xs[j], List.getElem?_eq_getElem hj, atI_nat (List.getElem?_eq_getElem hj)⟩
def spPick (K : PySem.W.Frag) : Sp := fun vs H Q _ => ∃ (t c l : Addr) (xs : List V) (n : Nat), vs = [.ref t, .ref l] ∧ Tub H t c n ∧ n < 1000000 ∧ l ≠ t ∧ SqL K H l xs ∧ 1 ≤ xs.length ∧ xs.length ≤ 10000 ∧
  ∀ (j : Nat) (v : V) (H' : Hp), xs[j]? = some v → Kept t H H' → Tub H' t c (n + 1) → Q v H'
/-- the drawer as it is made: new -/
def spTub (K : PySem.W.Frag) : Sp := fun vs H Q _ => ∃ (a : Addr) (ns : List Int), vs = [.ref a] ∧ SqL K H a (ns.map V.int) ∧ ns.length ≤ 1000 ∧ ∀ t c H', H t = none → H c = none → Same H H' → Tub H' t c 0 → Q (.ref t) H'
theorem given_all {α : Type} (ns : List α) (d : α) (f : α → V) : Evl.given ns.length (fun _ => true) (fun i => f (ns.getD i d)) = ns.map f := by
  unfold Evl.given
  rw [List.filter_eq_self.mpr (fun _ _ => rfl)]
  refine List.ext_getElem (by simp) fun i h1 h2 => ?_
  have h3 : i < ns.length := by simpa using h2
  simp [List.getD_eq_getElem?_getD, h3]
theorem erase_map : ∀ (l : List Int) (j : Nat), (l.map V.int).eraseIdx j = (l.eraseIdx j).map V.int
  | [], j => by simp
  | _ :: _, 0 => rfl
  | a :: r, j + 1 => by
    have ih := erase_map r j
    simp [ih]
/-! ### going on behind an argument, a list made, a call -/
theorem ret_lst {t : TA} {D : Ends} {σ : L2.St} {H : Hp} (h : t σ H fun xs H1 => xs.length ≤ sizeLine ∧ ∀ p, H1 p = none → D.rt (.ref p) (upd H1 p (.lst xs))) : tRet (tLst t) D σ H := h
theorem go_l {te : TE} {σ : L2.St} {H : Hp} {Q : VK} {xs : List V} (h : Evl.EvL te σ H xs) (k : ∀ p H1, H p = none → Evl.Ex H H1 → H1 p = some (.lst xs) → Q (.ref p) H1) : te σ H Q := h H (Evl.Ex.refl H) Q k
theorem go_v {te : TE} {σ : L2.St} {H : Hp} {Q : VK} {v : V} (h : Evl.Ev te σ H v) (k : ∀ H1, Evl.Ex H H1 → Q v H1) : te σ H Q := h H (Evl.Ex.refl H) Q k
theorem cons_l {ta : TE} {tr : TA} {σ : L2.St} {H : Hp} {Q : List V → Hp → Prop} {xs : List V} (h : Evl.EvL ta σ H xs) (k : ∀ p H1, H p = none → Evl.Ex H H1 → H1 p = some (.lst xs) → tr σ H1 fun vs H2 => Q (.ref p :: vs) H2) : tCons ta tr σ H Q := h H (Evl.Ex.refl H) _ k
theorem cons_v {ta : TE} {tr : TA} {σ : L2.St} {H : Hp} {Q : List V → Hp → Prop} {v : V} (h : Evl.Ev ta σ H v) (k : ∀ H1, Evl.Ex H H1 → tr σ H1 fun vs H2 => Q (v :: vs) H2) : tCons ta tr σ H Q := h H (Evl.Ex.refl H) _ k
theorem et_yes {σ : L2.St} {H : Hp} : Evl.EvT tYes σ H true := fun H1 _ _ q => q H1 (Evl.Ex.refl H1)
theorem cut60 (xs : List V) : cutV xs none (some 62) = xs.take 62 := by
  unfold cutV
  rw [HT.sIx_none, show HT.sIx xs.length xs.length (some 62) = min 62 xs.length from HT.sIx_nat _ _ 62, List.drop_zero, Nat.sub_zero]
  by_cases h : 62 ≤ xs.length
  · rw [Nat.min_eq_left h]
  · rw [Nat.min_eq_right (by omega), List.take_length, List.take_of_length_le (by omega)]
section
variable {P : Program} {w : World} {K : PySem.W.Frag} {mg : Str → Option Value} {base : Heap}
theorem ok_pick {f fS : Addr} {fd fdS : FuncData} {k : Nat} (F : Fun K "_law_one_of" "_law_one_of" sPick f fd) (FS : Fun K "_law_stamp" "_law_stamp" sScoop fS fdS) (GS : FnOk P w K mg base CX0 k fS fdS ["tagger", "many"] spScoop) (bS : Binds K fdS ["tagger", "many"] [])
    (gS : mg "_law_stamp" = some (.ref fS)) (mlen : mg "len" = none) : FnOk P w K mg base CX0 (k + 1) f fd ["tagger", "some"] (spPick K) := by
  refine F.ok scPick (fun vs H Q E h => ?_) (fun cdv A outer s H vs Q E hr h => ?_)
  · obtain ⟨t, c, l, xs, n, rfl, _⟩ := h
    rfl
  · obtain ⟨t, c, l, xs, n, rfl, hT, hn, hlt, hS, h1, h2, q⟩ := h
    refine ⟨_, pss_one (ps_ret (pe_ix ix_list (pv 1) (pe_call GS hr (by rfl) gS FS.kp bS .nil pass0 (pa_cons (pv 0) (pa_cons (pe_callB call_len_seq (by rfl) mlen PySem.boot_len (pa_cons (pv 1) pa_nil)) pa_nil))) (fun _ _ => rfl))), ?_⟩
    refine ⟨.ref l, rfl, .ref t, rfl, .ref l, rfl, l, xs, rfl, .inl hS, t, c, (xs.length : Int), n, rfl, hT, by omega, by omega, by omega, fun r H' r0 r1 hk hT' => ?_⟩
    obtain ⟨j, v, hj, ha⟩ := at_drawn r0 r1
    exact ⟨l, xs, r, v, rfl, rfl, hk.seq hlt hS, ha, q j v H' hj hk hT'⟩
theorem ok_tub {f : Addr} {fd : FuncData} {k : Nat} (F : Fun K "_law_tagger" "_law_tagger" sTub f fd) (mint : mg "int" = none) : FnOk P w K mg base CX0 (k + 1) f fd ["script"] (spTub K) := by
  refine F.ok scTub (fun vs H Q E h => ?_) (fun cdv A outer s H vs Q E hr h => ?_)
  · obtain ⟨a, ns, rfl, _⟩ := h
    rfl
  · obtain ⟨a, ns, rfl, hS, hl, q⟩ := h
    have nd := scTub.nd
    refine ⟨_, pss_one (ps_ret (pe_lst (pa_cons (pe_lc (own := [("cell", 1)]) (g := gName 1) (tt := tYes) rfl nd (pi_list (pe_slice sl_list (pv 0) po_none (po_some pe_int))) (blkOk_by (N := ["script", "cell"]) (sc := defScope sTub) (by decide +kernel)) (fun _ _ _ _ _ => pg_name (i := 1) nd rfl (Or.inl rfl)) (fun _ _ _ _ _ => pts_nil) (fun _ _ _ _ _ => pe_callTy call_int1 (by rfl) mint (by decide +kernel) (pa_cons (pv 1) pa_nil))) (pa_cons pe_int (pa_cons pe_int pa_nil))))), ?_⟩
    have e0 : cutV (ns.map V.int) none (some 62) = (ns.take 62).map V.int := by rw [cut60, List.map_take]
    refine ret_lst (cons_l (Evl.el_lcNL (K := K) (H := H) (j := 1) (xs := (ns.take 62).map V.int) (fun _ => true) (fun i => V.int ((ns.take 62).getD i 0)) ?_ ?_ ?_ ?_ ?_) (fun p H1 hp e1 h1 => ?_))
    · rw [← e0]
      exact Evl.el_sl (Evl.ev_var rfl) Evl.eo_none (Evl.eo_some Evl.ev_c) hS
    · rw [List.length_map, List.length_take]
      omega
    · exact fun x => rfl
    · exact fun i x H1 _ _ => et_yes
    · intro i x H1 _ hx _
      have hx2 : x = V.int ((ns.take 62).getD i 0) := by
        rw [List.getElem?_map] at hx
        cases hz : (ns.take 62)[i]? with
        | none => rw [hz] at hx; cases hx
        | some z =>
          rw [hz] at hx
          rw [List.getD_eq_getElem?_getD, hz]
          exact (Option.some.inj hx).symm
      subst hx2
      exact ev_int (Evl.ev_var rfl)
    · rw [List.length_map, given_all (ns.take 62) 0 V.int] at h1
      refine ⟨by show 3 ≤ sizeLine; decide, fun t ht => ?_⟩
      refine q t p _ (Evl.fresh_back e1 ht) hp (fun b o hb => ?_) ⟨ns.take 62, 0, 0, upd_same, ?_, ne_of_none h1 ht, by rw [List.length_take]; omega, Int.le_refl _, Int.le_refl _, Int.le_refl _⟩
      · rw [upd_ne (ne_of_none (e1 _ _ hb) ht)]
        exact e1 _ _ hb
      · rw [upd_ne (ne_of_none h1 ht)]
        exact h1
end

end P60
end S_Kb
section S_Wf
namespace Hk
open PySem PySem.Spec PyProof.Rows L2
theorem args_minD (a v : Value) : argsOk "min" ⟨[a], [(Str.ofString "default", v)]⟩ := by unfold argsOk; kernel_rfl
section
variable {prog : Program} {w : World} {A : Around} {E : Value → Shared → Prop} {s : Shared}
/-- min of an empty list, with what is told for none -/
theorem min_none {l : Addr} {d : Value} {Q : Value → Shared → Prop} (hh : A.handled = none) (hl : s.heap.IsList l #[]) (k : ∀ h' tk, (∀ b o, s.heap.get? b = some o → h'.get? b = some o) → Q d { s with heap := h', toks := tk }) :
    wpAny (model prog w) A (call (.builtin "min") [.ref l] [(Str.ofString "default", d)]) Q E s := by
  refine PyProof.Rows.kmk_tree PySem.F.kind_min PySem.F.plain_min PySem.F.entry_min (args_minD _ _) ?_
  show wpAny _ A.in1 (Builtin.Builtins.bindParams "min" ["key", "default"] 0 ⟨[], [(Str.ofString "default", d)]⟩ >>= _) _ _ s
  refine wpAny_bind (wpAny_of_eq (show Builtin.Builtins.bindParams "min" ["key", "default"] 0 ⟨[], [(Str.ofString "default", d)]⟩ = pure [none, some d] from rfl) (wpAny_bind (wpAny_pure (wpAny_bind (wpAny_pyIter_list hl (wpAny_bind (wpAny_newList ?_ (Nat.zero_le _))))))))
  rw [show (toString "min" ++ toString ".loop" : String) = "min.loop" by decide]
  have ll : l < s.heap.objs.size := by
    obtain ⟨o, ho, _⟩ := hl
    exact Heap.lt_size ho
  refine wpAny_pure ⟨plainId_quiet PySem.F.plain_min_loop _, ?_⟩
  have up : ∀ b o, s.heap.get? b = some o → ((s.heap.push { cls := .type "list_iterator", data := .fields #[.ref l, .int 0 0] }).push (seqObj "list" #[] 0)).get? b = some o := fun b o e => Heap.get?_push_of_some _ (Heap.get?_push_of_some _ e)
  have gI : ((s.heap.push { cls := .type "list_iterator", data := .fields #[.ref l, .int 0 0] }).push (seqObj "list" #[] 0)).get? s.heap.objs.size = some { cls := .type "list_iterator", data := .fields #[.ref l, .int 0 0] } := Heap.get?_push_of_some _ (Heap.get?_push_size _ rfl)
  have gS : ((s.heap.push { cls := .type "list_iterator", data := .fields #[.ref l, .int 0 0] }).push (seqObj "list" #[] 0)).get? (s.heap.push { cls := .type "list_iterator", data := .fields #[.ref l, .int 0 0] }).objs.size = some (seqObj "list" #[] 0) := Heap.get?_push_size _ rfl
  refine codeAny_builtin PySem.F.entry_min_loop ?_
  rw [Around.under_plainId PySem.F.plain_min_loop _]
  refine wpAny_bind (wpAny_seqItems gS rfl (wpAny_bind (wpAny_tryCatch (wpAny_pyNext_list_end (i := 0) (items := #[]) hh ⟨_, gI, rfl, rfl⟩ (let ⟨o, ho, r⟩ := hl; ⟨o, up _ _ ho, r⟩) rfl fun h' ext => ?_))))
  show wpAny _ _ (do rule (toString "min" ++ toString ".default"); (ret d : Sem Fin)) _ _ _
  exact wpAny_bind (wpAny_rule (wpAny_pure (k _ _ fun b o e => ext b o (Nat.ne_of_lt (Heap.lt_size e)) (up b o e))))
end
def rMinN (K : PySem.W.Frag) : List V → List V → Hp → VK → Prop := fun xs zs H Q => ∃ (l : Addr) (z : V), xs = [.ref l] ∧ zs = [z] ∧ SqL K H l [] ∧ Q z H
theorem call_minN {X : Cx} (hc : X.calm = true) : CallRK X (.builtin "min") ["default"] (rMinN X.K) := by
  intro pins s σ H xs zs us ws Q I r r2 h
  obtain ⟨l, z, rfl, rfl, hS, q⟩ := h
  cases r with
  | cons rx rr =>
    cases rr
    cases rx
    cases r2 with
    | cons rz rr =>
      cases rr
      obtain ⟨its, rv, pl, hz⟩ := I.list hS
      have e : its = [] := by cases rv; rfl
      subst e
      exact min_none (I.ok.hd hc) pl.isList fun h' tk kp => ⟨z, H, I.kept (t' := tk) kp, rz, q⟩
end Hk
end S_Wf
section S_Wg
namespace Hk
open PySem PySem.Spec PyProof.Rows L2 Tl
section
open Evl
variable {K : PySem.W.Frag} {σ : L2.St} {H H' B : Hp} {ta tb te : TE} {x y z v : V}
theorem s_retN {te : TE} {D : Ends} {R : V → Hp → Prop} (h : EvN te σ H R) (k : ∀ v H1, Ex H H1 → (∀ H3, Ex H H3 → Since H H1 H3 → R v H3) → D.rt v H1) : tRet te D σ H := h H (Ex.refl H) D.rt k
theorem s_retB {te : TE} {D : Ends} {R : V → Hp → Prop} {B : Hp} (hB : Ex B H) (h : EvN te σ B R) (k : ∀ v H1, Ex H H1 → (∀ H3, Ex B H3 → Since H H1 H3 → R v H3) → D.rt v H1) : tRet te D σ H := h H hB D.rt k
theorem q_asgN {te : TE} {tz : TS} {i : Nat} {D : Ends} {R : V → Hp → Prop} {B : Hp} (hB : Ex B H) (h : EvN te σ B R) (k : ∀ v H1, Ex H H1 → (∀ H3, Ex B H3 → Since H H1 H3 → R v H3) → tz D (σ.set i (some v)) H1) : tSeq (tAsg te (gName i)) tz D σ H := h H hB _ k
def SpN (sp : Sp) (vs : List V) (H : Hp) (R : V → Hp → Prop) : Prop := ∀ H1, Ex H H1 → ∀ Q : VK, (∀ v H2, Ex H1 H2 → (∀ H3, Ex H H3 → Since H1 H2 H3 → R v H3) → Q v H2) → ∀ E : XK, sp vs H1 Q E
theorem en_call {sp : Sp} {dvs vs : List V} {E : XK} {ta : TA} {R : V → Hp → Prop} (h : EvA ta σ H vs) (hs : SpN sp (vs ++ dvs) H R) : EvN (tCall sp dvs E ta) σ H R := fun H1 e Q q =>
  h H1 e _ fun H2 e2 => hs H2 (e.trans e2) Q (fun v H3 e3 hv => q v H3 (e2.trans e3) fun H4 h4 s4 => hv H4 h4 fun a o ha hc => s4 a o (fresh_back e2 ha) hc) E
theorem en_tup {ta : TE} {a : Addr} {xs : List V} (h : Ev ta σ H (.ref a)) (hs : SqL K H a xs) : EvN (tCB (fun xs H Q => ∃ p ys, xs = [V.ref p] ∧ ((SqL K H p ys ∧ ∀ l, H l = none → Q (V.ref l) (upd H l (HO.tup ys))) ∨ (SqT K H p ys ∧ Q (V.ref p) H))) (tCons ta tNil)) σ H
    (fun u H' => ∃ t, u = .ref t ∧ H' t = some (.tup xs)) := fun H1 e Q q =>
  h H1 e _ fun H2 e2 => ⟨a, xs, rfl, .inl ⟨ex_l (e.trans e2) hs, fun t ht => q _ _ (e2.trans (Ex.new ht)) fun H3 _ s3 => ⟨t, rfl, s3 _ _ (fresh_back e2 ht) upd_same⟩⟩⟩
theorem ei_rng2c {σ : L2.St} {H : Hp} {ta : TA} {i j : Int} {n : Nat} (hn : (j - i).toNat = n) (h : Evl.EvA ta σ H [.int i, .int j]) (h0 : -100000 ≤ i ∧ i ≤ 100000) (h1 : -100000 ≤ j ∧ j ≤ 100000) : EvI (iRng2 ta) σ H n (YFn fun k => .int (i + k)) := by
  subst hn
  exact ei_rng2 h h0 h1
theorem ei_rng1c {σ : L2.St} {H : Hp} {ta : TA} {j : Int} {n : Nat} (hn : j.toNat = n) (h : Evl.EvA ta σ H [.int j]) (h0 : 0 ≤ j) (h1 : j ≤ 100000) : EvI (iRng1 ta) σ H n (YFn fun k => .int (0 + k)) := by
  subst hn
  exact ei_rng1 h h0 h1
end
end Hk
end S_Wg
section S_Kc
namespace P60
open PySem PySem.Spec PyProof.Rows L2 Tl Hk
/-- a value, and whether it is a list of integers within bounds -/
inductive RowR (K : PySem.W.Frag) (H : Hp) (lo hi : V) : V → Bool → Prop where
  | no {x : V} {n : String} (h : Ty7 K H x n) (h1 : n ≠ "list") (h2 : n ≠ "tuple") : RowR K H lo hi x false
  | lst {a : Addr} {xs : List V} (h : SqL K H a xs) (hl : xs.length ≤ 4000) (hi_ : ∀ v ∈ xs, ∃ n, Ty7 K H v n) : RowR K H lo hi (.ref a) (xs.all fun v => wi v lo hi)
  | tup {a : Addr} {xs : List V} (h : SqT K H a xs) (hl : xs.length ≤ 4000) (hi_ : ∀ v ∈ xs, ∃ n, Ty7 K H v n) : RowR K H lo hi (.ref a) (xs.all fun v => wi v lo hi)
theorem RowR.ex {K : PySem.W.Frag} {H H' : Hp} {lo hi x : V} {r : Bool} (h : RowR K H lo hi x r) (e : Evl.Ex H H') : RowR K H' lo hi x r := by
  cases h with
  | no h h1 h2 => exact .no (h.ex e) h1 h2
  | lst h hl hi => exact .lst (Evl.ex_l e h) hl fun v hv => (hi v hv).imp fun n hn => hn.ex e
  | tup h hl hi => exact .tup (Evl.ex_t e h) hl fun v hv => (hi v hv).imp fun n hn => hn.ex e
def spRow (K : PySem.W.Frag) : Sp := fun vs H Q _ => ∃ (x lo hi : V) (r : Bool), vs = [x, lo, hi] ∧ RowR K H lo hi x r ∧ Bnd lo ∧ Bnd hi ∧ ∀ H1, Evl.Ex H H1 → Q (.bl r) H1
theorem scRow : FnScope ["value", "least", "most", "item"] ["value", "least", "most"] (defScope sRow) := ⟨rfl, rfl, rfl, by decide +kernel, rfl, by decide +kernel, by decide +kernel⟩
section
variable {P : Program} {w : World} {K : PySem.W.Frag} {mg : Str → Option Value} {base : Heap}
theorem ok_row {f fW fL : Addr} {fd fdW fdL : FuncData} {k : Nat} (F : Fun K "is_row" "is_row" sRow f fd)
    (FW : Fun K "is_within" "is_within" sWithin fW fdW) (GW : FnOk P w K mg base CX0 k fW fdW ["value", "least", "most"] (spWithin K)) (bW : Binds K fdW ["value", "least", "most"] []) (gW : mg "is_within" = some (.ref fW))
    (FL : Fun K "is_list" "is_list" sList fL fdL) (GL : FnOk P w K mg base CX0 k fL fdL ["value"] (spList K)) (bL : Binds K fdL ["value"] []) (gL : mg "is_list" = some (.ref fL)) (mall : mg "all" = none) :
    FnOk P w K mg base CX0 (k + 1) f fd ["value", "least", "most"] (spRow K) := by
  refine F.ok scRow (fun vs H Q E h => ?_) (fun cdv A outer s H vs Q E hr h => ?_)
  · obtain ⟨x, lo, hi, r, rfl, _⟩ := h
    rfl
  · obtain ⟨x, lo, hi, r, rfl, h, hlo, hhi, q⟩ := h
    have nd := scRow.nd
    have isl : ∀ {n : String}, Ty7 K H x n → Evl.Ev (tCall (spList K) [] E0 (tCons (tVar 0) tNil)) (start ["value", "least", "most", "item"] [x, lo, hi]) H (.bl (decide (n = "list") || decide (n = "tuple"))) :=
      fun h7 => Evl.ev_call (Evl.ea_cons (Evl.ev_var rfl) Evl.ea_nil) (spv_list h7)
    have items : ∀ {H1 : Hp} {xs : List V} {i : Nat} {v : V}, Evl.Ex H H1 → (∀ v ∈ xs, ∃ n, Ty7 K H v n) → xs[i]? = some v → Evl.Ev (tCall (spWithin K) [] E0 (tCons (tVar 3) (tCons (tVar 1) (tCons (tVar 2) tNil)))) [none, some lo, some hi, some v] H1 (.bl (wi (xs.getD i .non) lo hi)) :=
      fun {H1 xs i v} e hi' hv => by
        obtain ⟨n, hn⟩ := hi' v (List.mem_of_getElem? hv)
        have ev : xs.getD i .non = v := by rw [List.getD_eq_getElem?_getD, hv]; rfl
        rw [ev]
        exact Evl.ev_call (Evl.ea_cons (Evl.ev_var rfl) (Evl.ea_cons (Evl.ev_var rfl) (Evl.ea_cons (Evl.ev_var rfl) Evl.ea_nil))) (spv_within (hn.ex e) hlo hhi)
    have ebs : ∀ xs : List V, Evl.given xs.length (fun _ => true) (fun i => V.bl (wi (xs.getD i .non) lo hi)) = (xs.map fun v => wi v lo hi).map V.bl := fun xs => by
      rw [given_all xs .non fun v => V.bl (wi v lo hi), List.map_map]
      rfl
    have eall : ∀ xs : List V, (true && (xs.map fun v => wi v lo hi).all id) = xs.all fun v => wi v lo hi := fun xs => by
      rw [Bool.true_and, List.all_map]
      rfl
    cases h with
    | @no x n h7 h1 h2 =>
      refine ⟨_, pss_one (ps_ret (pe_and (pe_call GL hr (by rfl) gL FL.kp bL .nil pass0 (pa_cons (pv 0) pa_nil)) (pe_one (pe_callB (cr_all rfl) (by rfl) mall (by decide +kernel) (pa_cons
          (pe_lc (own := [("item", 3)]) (g := gName 3) (tt := tYes) rfl nd (pi_list (pv 0)) (blkOk_by (N := ["value", "least", "most", "item"]) (sc := defScope sRow) (by decide +kernel)) (fun _ _ _ _ _ => pg_name (i := 3) nd rfl (Or.inl rfl)) (fun _ _ _ _ _ => pts_nil)
            (fun _ _ _ _ _ => pe_call GW (hr) (by rfl) gW FW.kp bW .nil pass0 (pa_cons (pv 3) (pa_cons (pv 1) (pa_cons (pv 2) pa_nil))))) pa_nil))))), ?_⟩
      have eb : (decide (n = "list") || decide (n = "tuple")) = false := by simp [h1, h2]
      exact Evl.s_ret (Evl.ev_is (Evl.ev_andV (b := false) (isl h7) fun z => by rw [eb] at z; cases z) (by rw [eb] <;> rfl)) q
    | @lst a xs hS hl hi0 =>
      refine ⟨_, pss_one (ps_ret (pe_and (pe_call GL hr (by rfl) gL FL.kp bL .nil pass0 (pa_cons (pv 0) pa_nil)) (pe_one (pe_callB (cr_all rfl) (by rfl) mall (by decide +kernel) (pa_cons
          (pe_lc (own := [("item", 3)]) (g := gName 3) (tt := tYes) rfl nd (pi_list (pv 0)) (blkOk_by (N := ["value", "least", "most", "item"]) (sc := defScope sRow) (by decide +kernel)) (fun _ _ _ _ _ => pg_name (i := 3) nd rfl (Or.inl rfl)) (fun _ _ _ _ _ => pts_nil)
            (fun _ _ _ _ _ => pe_call GW (hr) (by rfl) gW FW.kp bW .nil pass0 (pa_cons (pv 3) (pa_cons (pv 1) (pa_cons (pv 2) pa_nil))))) pa_nil))))), ?_⟩
      refine Evl.s_ret (Evl.ev_is (Evl.ev_andV (isl (.lst hS)) fun _ => ev_allN (bs := xs.map fun v => wi v lo hi) ?_) (congrArg V.bl (eall xs))) q
      rw [← ebs]
      exact Evl.el_lcL (fun _ => true) _ (Evl.ev_var rfl) hS (by omega) (fun _ => rfl) (fun _ _ _ _ _ => et_yes) fun i v H1 e1 hv _ => items e1 hi0 hv
    | @tup a xs hS hl hi0 =>
      refine ⟨_, pss_one (ps_ret (pe_and (pe_call GL hr (by rfl) gL FL.kp bL .nil pass0 (pa_cons (pv 0) pa_nil)) (pe_one (pe_callB (cr_all rfl) (by rfl) mall (by decide +kernel) (pa_cons
          (pe_lc (own := [("item", 3)]) (g := gName 3) (tt := tYes) rfl nd (pi_tup (pv 0)) (blkOk_by (N := ["value", "least", "most", "item"]) (sc := defScope sRow) (by decide +kernel)) (fun _ _ _ _ _ => pg_name (i := 3) nd rfl (Or.inl rfl)) (fun _ _ _ _ _ => pts_nil)
            (fun _ _ _ _ _ => pe_call GW (hr) (by rfl) gW FW.kp bW .nil pass0 (pa_cons (pv 3) (pa_cons (pv 1) (pa_cons (pv 2) pa_nil))))) pa_nil))))), ?_⟩
      refine Evl.s_ret (Evl.ev_is (Evl.ev_andV (isl (.tup hS)) fun _ => ev_allN (bs := xs.map fun v => wi v lo hi) ?_) (congrArg V.bl (eall xs))) q
      rw [← ebs]
      exact el_lcT (fun _ => true) _ (Evl.ev_var rfl) hS (by omega) (fun _ => rfl) (fun _ _ _ _ _ => et_yes) fun i v H1 e1 hv _ => items e1 hi0 hv
end
end P60
end S_Kc
section S_Wh
namespace Hk
open PySem PySem.Spec PyProof.Rows L2 LamX Tl
/-- a def called where no repr is under way, its code object known -/
theorem fn_gC {P : Program} {w : World} {K : PySem.W.Frag} {mg : Str → Option Value} {base : Heap} {x qual : Str} {st : Stmt} {f c : Addr} {fd : FuncData} {N ps : List Str} {k : Nat} {sp : Sp} (F : Fun K x qual st f fd) (hcode : fd.code = .ref c) (S : FnScope N ps (defScope st))
    (len : ∀ {vs H Q E}, sp vs H Q E → vs.length = ps.length)
    (hbody : ∀ (A : Around) (outer : List Env) (s : Shared) (H : Hp) (vs : List V) (Q : VK) (E : XK), A.guards = some [] → Room k (A.deeper (envOfC qual (defScope st) s.heap.objs.size f (.ref c))) → sp vs H Q E →
      ∃ t, PSs (cxOf CX0 P w K mg base N qual (defScope st) f (.ref c) A outer s H E).nox (defBody st) t ∧ t { nx := fun _ H' => Q .non H', rt := Q } (start N vs) H) : FnG P w K mg base (k + 1) f fd ps sp := by
  obtain ⟨oc, od, kV, doc, pm, an, cdv, ct, osl, rfl, lk, hcd⟩ := F.ex
  obtain rfl : cdv = .ref c := hcode
  refine ⟨len, fun {A outer s H args us vs Q E} hgd hr e0 hb r hsp => ?_⟩
  have kin : K.In s.heap := e0.mod.kin.keeps fun b o e => (e0.bs b o e).1
  have nl : s.heap.NoLimit := e0.mod.nolimit.keeps fun b o e => (e0.bs b o e).1
  refine codeAny_call_function hr.depth (kin _ _ lk) rfl S.co S.gen rfl (PySem.W.codeRec_of kin hcd) (hb _ _ _ _ (wpAny_newFunctionEnv_cells S.kind ?_ fun env he s1 x => ?_))
  · intro y hy
    have hp : y.1 ∈ ps := (List.of_mem_zip (a := y.1) (b := y.2) hy).1
    exact (S.par y.1 hp).imp id fun q => ⟨q, PySem.W.cellsFrom_some _ _ _ (.inl q)⟩
  · cases he
    obtain ⟨t, ht, hq⟩ := hbody A outer s H vs Q E hgd (hr.deeper _) hsp
    have I := inv_start (CX := CX0) (P := P) (w := w) (base := base) (E := E) (qual := qual) (f := f) (cd := .ref c) S hr.hd e0 (len hsp) r x
    refine ⟨nl.keeps x.toInCall.keep, codeAny_func (wpAny_mono (ht.nox.run [] s1 (start N vs) H _ I hq) (fun fl s' hs => ?_) fun _ _ hs => hs)⟩
    cases fl with
    | ret u =>
      obtain ⟨v, σ', H', J, rv, q⟩ := hs
      exact ⟨v, H', J.os, J.bare, J.base, J.hok, rv, q⟩
    | next =>
      obtain ⟨σ', H', J, q⟩ := hs
      exact ⟨.non, H', J.os, J.bare, J.base, J.hok, rfl, q⟩
    | brk => exact hs.elim fun _ h => h.elim fun _ h => h.2.elim
    | cont => exact hs.elim fun _ h => h.elim fun _ h => h.2.elim
theorem passF {X : Cx} {P : Program} {w : World} : Passes (L2.CX P w) X E0 := fun _ _ _ _ _ _ _ c => by
  obtain ⟨_, _, _, _, _, _, _, _, _, _, _, _, h⟩ := c
  exact h.elim
section
open Evl
variable {K : PySem.W.Frag} {σ : L2.St} {H H' : Hp} {ta tb te : TE}
theorem el_listT {p : Addr} {xs : List V} (ha : Ev ta σ H (.ref p)) (h : SqT K H p xs) : EvL (tCB (rListS K) (tCons ta tNil)) σ H xs := fun H1 e Q q =>
  ha H1 e _ fun H2 e2 => ⟨p, xs, rfl, .inr (ex_t (e.trans e2) h), fun l hl => q l _ (fresh_back e2 hl) (e2.trans (Ex.new hl)) upd_same⟩
theorem el_listU {xs : List V} (ha : EvU ta σ H xs) : EvL (tCB (rListS K) (tCons ta tNil)) σ H xs := fun H1 e Q q =>
  ha H1 e _ fun p H2 hp e2 h2 => ⟨p, xs, rfl, .inr (st_of h2), fun l hl => q l _ (fresh_back e2 hl) (e2.trans (Ex.new hl)) upd_same⟩
theorem ev_lenU {xs : List V} (ha : EvU ta σ H xs) : Ev (tCB (rLenS K) (tCons ta tNil)) σ H (.int (xs.length : Int)) := fun H1 e Q q =>
  ha H1 e _ fun p H2 _ e2 h2 => ⟨p, xs, rfl, .inr (st_of h2), q H2 e2⟩
/-- a tuple with these items, new or not -/
def EvTp (K : PySem.W.Frag) (te : TE) (σ : L2.St) (H : Hp) (xs : List V) : Prop := ∀ H1, Ex H H1 → ∀ Q : VK, (∀ p H2, Ex H1 H2 → SqT K H2 p xs → Q (.ref p) H2) → te σ H1 Q
theorem tp_u {xs : List V} (h : EvU te σ H xs) : EvTp K te σ H xs := fun H1 e Q q => h H1 e Q fun p H2 _ e2 h2 => q p H2 e2 (st_of h2)
theorem tp_slTo {th : TO} {a : Addr} {xs : List V} {n : Nat} (h : Ev te σ H (.ref a)) (h2 : EvO th σ H (some (n : Int))) (hs : SqT K H a xs) (hn : n ≤ xs.length) : EvTp K (tSl (rSlA K) te tNoPart th) σ H (xs.take n) := fun H1 e Q q =>
  h H1 e _ fun H2 e2 => h2 H2 (e.trans e2) _ fun H4 e4 => by
    have hh := ex_t ((e.trans e2).trans e4) hs
    have ec : cutV xs none (some (n : Int)) = xs.take n := by
      unfold cutV
      rw [HT.sIx_none, HT.sIx_nat, List.drop_zero, Nat.sub_zero, Nat.min_eq_left hn]
    refine ⟨a, xs, rfl, hh, fun hw => ?_, fun _ p hp => ?_⟩
    · have e1 := hw.2
      rw [HT.sIx_nat, Nat.min_eq_left hn] at e1
      refine q a H4 (e2.trans e4) ?_
      rw [e1, List.take_length]
      exact hh
    · rw [ec]
      exact q p _ ((e2.trans e4).trans (Ex.new hp)) (st_of upd_same)
/-- ints, as data -/
def dz (ns : List Int) : List PyData := ns.map PyData.int
theorem dp_z : ∀ (ns : List Int), DpAll K H (ns.map V.int) (dz ns)
  | [] => .nil
  | i :: r => .cons (.int i) (dp_z r)
theorem z_shT (ns : List Int) : SeqAt.shaped (.tuple (dz ns)) = true := by
  unfold dz
  simp [SeqAt.shaped, PyData.canLay0, PyData.depth, PySem.W.ke_canLayAll0, PySem.W.ke_depthAll]
theorem z_shL (ns : List Int) : SeqAt.shaped (.list (dz ns)) = true := PySem.W.ke_shaped_ints ns
theorem et_neTp {ns : List Int} (ha : EvTp K ta σ H (ns.map V.int)) (hb : EvTp K tb σ H (ns.map V.int)) : EvT (tTest (tOp (rNeD K) ta tb)) σ H false := fun H1 e Q q =>
  ha H1 e _ fun p H2 e2 h2 => hb H2 (e.trans e2) _ fun p3 H3 e3 h3 => by
    refine ⟨.tuple (dz ns), .tuple (dz ns), .tup (ex_t e3 h2) (dp_z ns), .tup h3 (dp_z ns), z_shT ns, z_shT ns, ?_⟩
    rw [SeqAt.eqv_refl _ (SeqAt.canLay_of_shaped (z_shT ns))]
    exact ⟨false, rfl, q H3 (e2.trans e3)⟩
theorem et_neLL {ns : List Int} (ha : EvL ta σ H (ns.map V.int)) (hb : EvL tb σ H (ns.map V.int)) : EvT (tTest (tOp (rNeD K) ta tb)) σ H false := fun H1 e Q q =>
  ha H1 e _ fun p H2 _ e2 h2 => hb H2 (e.trans e2) _ fun p3 H3 _ e3 h3 => by
    refine ⟨.list (dz ns), .list (dz ns), .lst (sq_of (e3 _ _ h2)) (dp_z ns), .lst (sq_of h3) (dp_z ns), z_shL ns, z_shL ns, ?_⟩
    rw [SeqAt.eqv_refl _ (SeqAt.canLay_of_shaped (z_shL ns))]
    exact ⟨false, rfl, q H3 (e2.trans e3)⟩
theorem piled_le : ∀ {ts : List Str} {c : Nat}, (∀ t ∈ ts, t.length ≤ c) → piled ts ≤ ts.length * (c + 2)
  | [], c, _ => Nat.zero_le _
  | t :: r, c, h => by
    have h1 := h t List.mem_cons_self
    have h2 := piled_le (ts := r) (c := c) fun u hu => h u (List.mem_cons_of_mem _ hu)
    rw [List.length_cons, Nat.succ_mul]
    show t.length + 2 + piled r ≤ _
    omega
theorem listText_le {ts : List Str} {c : Nat} (h : ∀ t ∈ ts, t.length ≤ c) : (listText ts).length ≤ ts.length * (c + 2) + 3 := by
  have hp := piled_le h
  unfold listText
  rw [strLen_append, show (("]" : String) : Str).length = 1 from rfl]
  cases ts with
  | nil =>
    show ((("[" : String) : Str)).length + 1 ≤ _
    rw [show (("[" : String) : Str).length = 1 from rfl]
    omega
  | cons t r =>
    show (textFrom (0 + 1) _ r).length + 1 ≤ _
    rw [textFrom_length_pos r (0 + 1) _ (by decide), strLen_append, strLen_append, show (("[" : String) : Str).length = 1 from rfl]
    have e2 : (((if 0 > 0 then ", " else "" : String)) : Str).length = 0 := rfl
    rw [e2]
    have e3 : piled (t :: r) = t.length + 2 + piled r := piled_cons t r
    omega
theorem shownAll_eq : ∀ ds : List PyData, PyData.shownAll ds = ds.map PyData.shown
  | [] => rfl
  | d :: r => by rw [PyData.shownAll, shownAll_eq r] <;> rfl
theorem z_len {ns : List Int} {b : Nat} (h1 : ns.length ≤ 10000) (h2 : ∀ x ∈ ns, x.natAbs ≤ 64) : (PyData.list (dz ns)).shown.length ≤ sizeLine := by
  show (listText (PyData.shownAll (dz ns))).length ≤ _
  rw [shownAll_eq]
  have := listText_le (ts := (dz ns).map PyData.shown) (c := 66) fun u hu => by
    unfold dz at hu
    rw [List.map_map] at hu
    obtain ⟨x, hx, rfl⟩ := List.mem_map.mp hu
    have b1 := len_str_of_int x
    have b2 := h2 x hx
    show (Str.ofString (toString x)).length ≤ 66
    omega
  rw [List.length_map] at this
  unfold dz at this
  rw [List.length_map] at this
  have h3 : ns.length * (66 + 2) ≤ 10000 * 68 := Nat.mul_le_mul h1 (Nat.le_refl _)
  rw [sizeLine_eq]
  unfold dz
  omega
theorem z_show : ∀ {ns : List Int}, (∀ x ∈ ns, x.natAbs ≤ 64) → PyData.showableAll (dz ns) = true
  | [], _ => rfl
  | x :: r, h => by
    show (decide (x.natAbs.log2 < 1920) && PyData.showableAll (dz r)) = true
    rw [z_show fun y hy => h y (List.mem_cons_of_mem _ hy), Bool.and_true]
    have h1 := h x List.mem_cons_self
    exact decide_eq_true (Nat.lt_of_le_of_lt (Nat.log2_le_self _) (by omega))
theorem z_nd : ∀ ns : List Int, PyData.hasDictAll (dz ns) = false
  | [] => rfl
  | x :: r => by show (false || PyData.hasDictAll (dz r)) = false; rw [z_nd r] <;> rfl
theorem z_deep (ns : List Int) : (PyData.list (dz ns)).depth ≤ 20 := by
  unfold dz
  simp [PyData.depth, PySem.W.ke_depthAll]
/-- repr of a new list of small ints -/
theorem ev_reprZ {ns : List Int} (h : EvL te σ H (ns.map V.int)) (h1 : ns.length ≤ 10000) (h2 : ∀ x ∈ ns, x.natAbs ≤ 64) : Ev (tCB (rRepr K) (tCons te tNil)) σ H (.str (PyData.list (dz ns)).shown) := fun H1 e Q q =>
  h H1 e _ fun p H2 _ e2 h2' => ⟨p, _, rfl, .lst (sq_of h2') (dp_z ns), z_show h2, z_nd ns, z_deep ns, z_len (b := 0) h1 h2, q H2 e2⟩
theorem et_neStr {z : Str} (h1 : Ev ta σ H (.str z)) (h2 : Ev tb σ H (.str z)) : EvT (tTest (tOp rNe ta tb)) σ H false :=
  et_is (et_test (ev_op h1 h2 (rv_ne rfl))) (by rw [decide_eq_true rfl] <;> rfl)
end
end Hk
end S_Wh
section S_Wl
namespace Hk
open PySem PySem.Spec PyProof.Rows L2 Tl
theorem cutAt (xs : List V) {b h : Nat} (hl : b + h ≤ xs.length) : cutV xs (some (b : Int)) (some ((b + h : Nat) : Int)) = (xs.drop b).take h := by
  unfold cutV
  rw [HT.sIx_nat, HT.sIx_nat, Nat.min_eq_left hl, Nat.min_eq_left (by omega), show b + h - b = h by omega]
section
open Evl
variable {K : PySem.W.Frag} {σ : L2.St} {H : Hp} {ta tb : TE}
def zD (ns : List Int) : List PyData := ns.map PyData.int
theorem dp_zD : ∀ (ns : List Int), DpAll K H (ns.map V.int) (zD ns)
  | [] => .nil
  | i :: r => .cons (.int i) (dp_zD r)
theorem eqv_zD (ns ms : List Int) : PyData.eqv (.list (zD ns)) (.list (zD ms)) = decide (ns = ms) := PySem.W.Datum.eqv (α := List Int) ns ms
/-- two new lists of ints, alike or not -/
theorem ev_eqLL {ns ms : List Int} (ha : EvL ta σ H (ns.map V.int)) (hb : EvL tb σ H (ms.map V.int)) : Ev (tOp (rEqD K) ta tb) σ H (.bl (decide (ns = ms))) :=
  ev_opLL ha hb fun p q H1 h1 h2 _ => fun H2 e2 Q k => by
    refine ⟨.list (zD ns), .list (zD ms), .lst (sq_of (e2 _ _ h1)) (dp_zD ns), .lst (sq_of (e2 _ _ h2)) (dp_zD ms), PySem.W.ke_shaped_ints ns, PySem.W.ke_shaped_ints ms, ?_⟩
    rw [eqv_zD]
    exact k H2 (Ex.refl H2)
end
end Hk
namespace Hk
open PySem PySem.Spec PyProof.Rows L2 Tl
section
open Evl
variable {K : PySem.W.Frag} {σ : L2.St} {H : Hp} {ta tb te : TE} {t : TT}
/-- a comprehension over anything that is walked, with a test: the turns that give, and what -/
theorem el_lcI {wi : TI} {g : TG} {vs : List Nat} {n : Nat} {Y : Nat → Hp → V → Hp → Prop} {s : Nat → L2.St → L2.St} (f : Nat → Bool) (v : Nat → V) (hw : EvI wi σ H n Y) (aim : Aims g n Y s) (hs : ∀ i, wipe (s i (wipe σ vs)) vs = wipe σ vs) (hn : n ≤ 40000)
    (ht : ∀ i H1, Ex H H1 → i < n → EvT t (s i (wipe σ vs)) H1 (f i)) (he : ∀ i H1, Ex H H1 → i < n → f i = true → Ev te (s i (wipe σ vs)) H1 (v i)) : EvL (tLc wi g t te vs) σ H (given n f v) := fun H1 e Q q =>
  hw H1 e _ fun J G H2 e2 w sG D hD => lc_it w (Cw H2 f v D) ⟨hD, Ex.new hD, upd_same⟩ (fun i H' _ p => sG H' ((e.trans e2).trans p.2.1) fun a o _ ha => p.2.1 _ _ ha)
    (fun i x A B hi p y => by
      obtain ⟨ab, k⟩ := aim i (wipe σ vs) A x B hi y
      exact k _ ⟨hs i, cw_turn ⟨p.1, p.2.1.trans ab, ab _ _ p.2.2⟩ (by omega) (ht i H2 (e.trans e2) hi) fun hf => he i H2 (e.trans e2) hi hf⟩)
    (fun H' p => q D H' (fresh_back e2 p.1) (e2.trans p.2.1) p.2.2)
theorem el_catN {xs ys : List V} (ha : EvL ta σ H xs) (hb : EvL tb σ H ys) (hz : xs.length + ys.length ≤ 100000) : EvL (tOp rCat ta tb) σ H (xs ++ ys) := fun H1 e Q q =>
  ha H1 e _ fun a H2 ha' e2 h2 => hb H2 (e.trans e2) _ fun p H3 _ e3 h3 => ⟨a, p, xs, ys, rfl, rfl, e3 _ _ h2, h3, sz_of hz, fun r hr => q r _ (fresh_back (e2.trans e3) hr) ((e2.trans e3).trans (Ex.new hr)) upd_same⟩
end
theorem yes_at {σ : L2.St} {H : Hp} {P R : Hp → Prop} (h : P H) : tYes σ H fun b H3 => if b = true then P H3 else R H3 := by
  show (if true = true then P H else R H)
  rw [if_pos rfl]
  exact h
theorem if_go {b : Bool} {P R : Prop} (h1 : b = true → P) (h2 : b = false → R) : if b = true then P else R := by
  cases b with
  | true => rw [if_pos rfl]; exact h1 rfl
  | false => rw [if_neg (by decide)]; exact h2 rfl
theorem cutTo' (xs : List V) (n : Nat) : cutV xs none (some (n : Int)) = xs.take n := by
  unfold cutV
  rw [HT.sIx_none, HT.sIx_nat, List.drop_zero, Nat.sub_zero]
  by_cases h : n ≤ xs.length
  · rw [Nat.min_eq_left h]
  · rw [Nat.min_eq_right (by omega), List.take_length, List.take_of_length_le (by omega)]
theorem cutFrom (xs : List V) (n : Nat) : cutV xs (some (n : Int)) none = xs.drop n := by
  unfold cutV
  rw [HT.sIx_nat, HT.sIx_none]
  by_cases h : n ≤ xs.length
  · rw [Nat.min_eq_left h, List.take_of_length_le (by rw [List.length_drop]; omega)]
  · rw [Nat.min_eq_right (by omega), Nat.sub_self, List.take_zero, List.drop_of_length_le (by omega)]
end Hk
namespace Hk
open PySem PySem.Spec PyProof.Rows L2 Tl
section
open Evl
variable {K : PySem.W.Frag} {σ : L2.St} {H : Hp} {ta tb te : TE} {t : TT}
theorem el_catNV {m : Addr} {xs ys : List V} (ha : EvL ta σ H xs) (hb : Ev tb σ H (.ref m)) (hm : H m = some (.lst ys)) (hz : xs.length + ys.length ≤ 100000) : EvL (tOp rCat ta tb) σ H (xs ++ ys) := fun H1 e Q q =>
  ha H1 e _ fun a H2 ha' e2 h2 => hb H2 (e.trans e2) _ fun H3 e3 => ⟨a, m, xs, ys, rfl, rfl, e3 _ _ h2, e3 _ _ (e2 _ _ (e _ _ hm)), sz_of hz, fun r hr => q r _ (fresh_back (e2.trans e3) hr) ((e2.trans e3).trans (Ex.new hr)) upd_same⟩
theorem el_rg1 {j : Int} (ha : Ev ta σ H (.int j)) (h : RgOk 0 j) : EvL (tLstRg (tRg1 ta)) σ H (rgV 0 j) := fun H1 e Q q =>
  ha H1 e _ fun H2 e2 => ⟨j, rfl, h, fun p hp => q p _ (fresh_back e2 hp) (e2.trans (Ex.new hp)) upd_same⟩
end
end Hk
namespace Hk
open PySem PySem.Spec PyProof.Rows L2 LamX Tl
theorem tupText_le {ts : List Str} {c : Nat} (h : ∀ t ∈ ts, t.length ≤ c) : (tupleText ts).length ≤ ts.length * (c + 2) + 3 := by
  unfold tupleText
  rw [strLen_append, strLen_append]
  have e1 : (("(" : String) : Str).length = 1 := rfl
  have e2 : (((if ts.length == 1 then ",)" else ")" : String)) : Str).length ≤ 2 := by split <;> decide
  have e3 : (Str.join ", " ts).length ≤ piled ts := by
    cases ts with
    | nil => exact Nat.le_refl _
    | cons t r => have := join_length_add (t :: r) (by simp); omega
  have := piled_le h
  omega
theorem z_lenT {ns : List Int} {c : Nat} (h1 : ns.length * (c + 4) ≤ 100000) (h2 : ∀ x ∈ ns, x.natAbs ≤ c) : (PyData.tuple (dz ns)).shown.length ≤ sizeLine := by
  show (tupleText (PyData.shownAll (dz ns))).length ≤ _
  rw [shownAll_eq]
  have := tupText_le (ts := (dz ns).map PyData.shown) (c := c + 2) fun u hu => by
    unfold dz at hu
    rw [List.map_map] at hu
    obtain ⟨x, hx, rfl⟩ := List.mem_map.mp hu
    have b1 := len_str_of_int x
    have b2 := h2 x hx
    show (Str.ofString (toString x)).length ≤ c + 2
    omega
  rw [List.length_map] at this
  unfold dz at this
  rw [List.length_map] at this
  have h3 : ns.length * (c + 2 + 2) ≤ 100000 := h1
  rw [sizeLine_eq]
  unfold dz
  omega
theorem z_showB {b : Nat} (hb : b < 2 ^ 1000) : ∀ {ns : List Int}, (∀ x ∈ ns, x.natAbs ≤ b) → PyData.showableAll (dz ns) = true
  | [], _ => rfl
  | x :: r, h => by
    show (decide (x.natAbs.log2 < 1920) && PyData.showableAll (dz r)) = true
    rw [z_showB hb fun y hy => h y (List.mem_cons_of_mem _ hy), Bool.and_true]
    have h1 := h x List.mem_cons_self
    refine decide_eq_true ?_
    by_cases z : x.natAbs = 0
    · rw [z]; decide
    · have := (Nat.log2_lt z (k := 1000)).mpr (by omega)
      omega
theorem z_deepT (ns : List Int) : (PyData.tuple (dz ns)).depth ≤ 20 := by
  unfold dz
  simp [PyData.depth, PySem.W.ke_depthAll]
/-- repr of data at an address, or of None -/
def rReprB (K : PySem.W.Frag) : List V → Hp → VK → Prop := fun xs H Q => rRepr K xs H Q ∨ (xs = [.non] ∧ Q (.str "None") H)
theorem call_reprB {X : Cx} (hg : X.A.guards = some []) (hu : X.A.units + 64 < cLine) : CallR X (.builtin "repr") (rReprB X.K) := by
  intro pins s σ H xs us Q I r h
  rcases h with h | ⟨rfl, q⟩
  · exact call_reprD hg hu _ _ _ _ _ _ _ I r h
  · obtain ⟨u, rfl, ru⟩ := vals1 r
    cases ru
    exact PySem.P.repr_of_none ⟨.str "None", H, I.tok _, ⟨_, rfl⟩, q⟩
end Hk
end S_Wl
section S_Wm
namespace Hk
open PySem PySem.Spec PyProof.Rows L2 Tl
/-- a set without items, as set() lays it -/
abbrev zO (w : World) : Obj := { cls := .type "set", dict := none, data := .set #[] 0 (.fresh 0 0 (!w.params.followText "set-order")) }
/-- what comes of set(l), l a list of these ints -/
def Got (w : World) (s : Shared) (ns : List Int) (r : Value) (s2 : Shared) : Prop := r = .ref s.heap.objs.size ∧ ∃ (h' : Heap) (tk c : Nat), s2 = { s with heap := h', toks := tk } ∧ SetR w h' s.heap.objs.size (fun j => decide (j ∈ ns)) c ∧ c ≤ ns.length ∧ ∀ b o, s.heap.get? b = some o → h'.get? b = some o
section
variable {P : Program} {w : World} {A : Around} {E : Value → Shared → Prop} {s : Shared}
set_option maxHeartbeats 3200000 in
theorem fill_list {l : Addr} {its : Array Value} {ns : List Int} (a0 : A.handled = none) (hl : s.heap.IsList l its) (hi : IntsAre its.toList ns) (hb : ns.length + 1 < scanBound) :
    codeAny (model P w) A (.call (.builtin "set.__init__") ⟨[.ref s.heap.objs.size, .ref l], []⟩) (wants (fun r s2 => r = .none ∧ Got w s ns (.ref s.heap.objs.size) s2) E) { s with heap := s.heap.push (zO w) } := by
  have n1 : its.size = ns.length := by
    have z := IntsAre.length hi
    rwa [Array.length_toList] at z
  have g0 : (s.heap.push (zO w)).get? s.heap.objs.size = some (zO w) := Heap.get?_push_size _ rfl
  refine codeAny_call_builtin (R := wants (fun r s2 => r = .none ∧ Got w s ns (.ref s.heap.objs.size) s2) E) F.called_set.init.plain F.entry_set_init (check_set_init_1 (s := { s with heap := s.heap.push (zO w) }) ⟨_, g0, rfl⟩ ?_)
  obtain ⟨⟨oc, od, ob, osl⟩, o1, o2, nl, o3⟩ := hl
  simp only at o2 o3
  subst o2
  subst o3
  have g1 := Heap.get?_push_of_some (zO w) o1
  have hls : (s.heap.push (zO w)).IsList l its := ⟨_, g1, rfl, nl, rfl⟩
  have k1 := F.sub_list_set
  have k2 := F.sub_list_frozenset
  have k3 : (Value.type "list" == Value.type "dict") = false := by decide
  unfold Builtin.«set.__init__» noKeywords Builtin.Frozenset.updateFrom
  generalize hPI : pyIter = PI
  wp_walk
  subst hPI
  refine wpAny_pyIter_list hls (wpAny_bind (wpAny_runValue ?_))
  have lS : l < s.heap.objs.size := Heap.lt_size o1
  have sz : (s.heap.push (zO w)).objs.size = s.heap.objs.size + 1 := Heap.size_push ..
  have a3 : A.in1.in1.handled = none := by simp [a0]
  have nI : l ≠ (s.heap.push (zO w)).objs.size := by
    rw [sz]
    exact Nat.ne_of_lt (Nat.lt_succ_of_lt lS)
  have nS : s.heap.objs.size ∉ [(s.heap.push (zO w)).objs.size, l] := fun m => by
    rw [sz] at m
    rcases List.mem_cons.mp m with z | z
    · exact Nat.ne_of_lt (Nat.lt_succ_self _) z
    · exact Nat.ne_of_gt lS (List.mem_singleton.mp z)
  have val : ∀ (i : Nat) (v : Value), its[i]? = some v → ∃ k t, ns[i]? = some k ∧ v = .int k t := fun i v hv => by
    have lt : i < ns.length := by rw [← n1]; exact (Array.getElem?_eq_some_iff.mp hv).1
    obtain ⟨t, e⟩ := PyProof.Rows.IntsAre.int_at hi i v (by rw [Array.getElem?_toList]; exact hv)
    exact ⟨ns[i], t, List.getElem?_eq_getElem lt, by rw [e, List.getD_eq_getElem?_getD, List.getElem?_eq_getElem lt] <;> rfl⟩
  refine set_update_ints ((Walks.list a3 _ l nI its).toS) s.heap.objs.size nS ns n1 hb val (its.size - 0) 0 _ (by omega) (Nat.zero_le _) ?z ?z0 ?z1
  case z => exact ⟨⟨_, Heap.get?_push_size _ rfl, rfl, rfl⟩, (hls.push _)⟩
  case z0 => exact ⟨0, Nat.le_refl 0, setR_new_at (Heap.get?_push_of_some _ g0)⟩
  case z1 =>
    intro s' c' hm hc' hS'
    obtain ⟨h', g2, d2, tk', os2⟩ := s'
    obtain rfl : g2 = s.gens := hm.gens
    obtain rfl : d2 = s.drawn := hm.drawn
    obtain rfl : os2 = s.os := hm.os
    show wpAny _ _ _ _ _ _
    refine wpAny_pure ?_
    show wpAny _ _ (ret Value.none) _ _ _
    rw [n1] at hc'
    refine wpAny_pure ⟨rfl, rfl, h', tk', c', rfl, hS', hc', fun b o e => ?_⟩
    have lb : b < s.heap.objs.size := Heap.lt_size e
    refine hm.heap b o (fun m => ?_) (Heap.get?_push_of_some _ (Heap.get?_push_of_some _ e))
    rcases List.mem_cons.mp m with z | z
    · exact Nat.ne_of_lt lb z
    · have z := List.mem_singleton.mp z
      rw [sz] at z
      exact Nat.ne_of_lt (Nat.lt_succ_of_lt lb) z
set_option maxHeartbeats 3200000 in
theorem set_of_list {l : Addr} {its : Array Value} {ns : List Int} {Q : Value → Shared → Prop} (a0 : A.handled = none) (hl : s.heap.IsList l its) (hi : IntsAre its.toList ns) (hb : ns.length + 1 < scanBound)
    (k : ∀ r s2, Got w s ns r s2 → Q r s2) : wpAny (model P w) A (call (.type "set") [.ref l]) Q E s := by
  obtain ⟨c, tl, hmro⟩ := F.called_set.mro
  refine wpAny_call (codeAny_of_tree ?_)
  show wpAny _ _ (callAny (.type "set") _) _ _ _
  refine wpAny_pure ⟨Code.quiet_builtin _ (by decide +kernel), codeAny_builtin F.entry_type_call ?_⟩
  rw [Around.under_plain (weight_type_call_type "set" [.ref l] []) rfl]
  have m1 := F.called_set.made
  have m2 := F.called_set.sub
  have m3 := F.called_set.notType
  have m4 := F.called_set.canCreate
  have m5 := F.typeCall_set_1 (.ref l)
  repeat (any_goals (first | assumption | wp_step))
  refine codeAny_mono (code_set_led1 (.ref l) (E := E) (Q₁ := fun u t => u = .ref s.heap.objs.size ∧ t = { s with heap := s.heap.push (zO w) }) ⟨rfl, rfl⟩) fun r s1 hr => ?_
  match r, hr with
  | .ok (.ret u), hr =>
    obtain ⟨rfl, rfl⟩ := hr
    have g0 : (s.heap.push (zO w)).get? s.heap.objs.size = some (zO w) := Heap.get?_push_size _ rfl
    have hT : Shared.TypeIs { s with heap := s.heap.push (zO w) } (.ref s.heap.objs.size) "set" := ⟨_, g0, rfl⟩
    have m6 := F.called_set.init.lookup
    have m7 := F.called_set.init.bind (.ref s.heap.objs.size)
    repeat (any_goals (first | assumption | wp_step))
    refine codeAny_mono (fill_list (P := P) (w := w) (E := E) a0 hl hi hb) fun r2 s2 h2 => ?_
    match r2, h2 with
    | .ok (.ret u), h2 =>
      obtain ⟨rfl, G⟩ := h2
      repeat (any_goals (first | assumption | wp_step))
      exact k _ _ G
    | .error e, h2 => exact h2
    | .ok .next, h2 => exact h2.elim
    | .ok .brk, h2 => exact h2.elim
    | .ok .cont, h2 => exact h2.elim
  | .error e, hr => exact hr
  | .ok .next, hr => exact hr.elim
  | .ok .brk, hr => exact hr.elim
  | .ok .cont, hr => exact hr.elim
end
/-- set(l) of a list of ints -/
def rSetL (K : PySem.W.Frag) (w : World) : List V → Hp → VK → Prop := fun xs H Q => ∃ (l : Addr) (ns : List Int), xs = [.ref l] ∧ SqL K H l (ns.map V.int) ∧ ns.length ≤ 1000 ∧ ∀ p c, H p = none → c ≤ ns.length → Q (.ref p) (upd H p (SetO w p (fun j => decide (j ∈ ns)) c))
theorem cr_setL {X : Cx} (hc : X.calm = true) : CallR X (.type "set") (rSetL X.K X.w) := by
  intro pins s σ H xs us Q I r h
  obtain ⟨l, ns, rfl, hq, hz, q⟩ := h
  rw [Vals.ref1 r]
  obtain ⟨its, rv, pl, _⟩ := I.list hq
  refine set_of_list (ns := ns) (I.ok.hd hc) pl.isList (by simpa using RZ.intsAre_vals rv) (by unfold scanBound; omega) fun u s2 ⟨e1, h', tk, c, e2, R, hc', kp⟩ => ?_
  subst e1 e2
  have hn : H s.heap.objs.size = none := I.hok.fresh (Nat.le_refl _)
  exact ⟨.ref s.heap.objs.size, _, I.laid (t' := tk) kp (Nat.le_refl _) (setO_new R), rfl, q _ c hn hc'⟩
end Hk
end S_Wm
section S_Wn
namespace Hk
open PySem PySem.Spec PyProof.Rows L2 Tl
/-- the i-th of xs, and what stands while it is walked -/
def YRow (xs : List V) (W : Hp → Prop) : Nat → Hp → V → Hp → Prop := fun i H v H' => H' = H ∧ xs[i]? = some v ∧ W H
section
open Evl
variable {K : PySem.W.Frag} {σ : L2.St} {H : Hp} {te : TE}
theorem ei_rowsL {a : Addr} {xs : List V} {n : Nat} {W : Hp → Prop} (h : Ev te σ H (.ref a)) (hx : SqL K H a xs) (hn : n = xs.length) (hW : ∀ A, Ex H A → W A) : EvI (iList K te) σ H n (YRow xs W) := fun H1 e R k => by
  subst hn
  exact h H1 e _ fun H2 e2 => ⟨a, rfl, ⟨xs, ex_l (e.trans e2) hx⟩, k _ (fun A => SqL K A a xs ∧ W A) H2 e2 (walk_list.mono (fun _ q => q.1) fun i A v A' hi q y => ⟨y.1, y.2, q.2⟩) fun A ab _ => ⟨ex_l ab hx, hW A ab⟩⟩
theorem ei_rowsT {a : Addr} {xs : List V} {n : Nat} {W : Hp → Prop} (h : Ev te σ H (.ref a)) (hx : SqT K H a xs) (hn : n = xs.length) (hW : ∀ A, Ex H A → W A) : EvI (iTup K te) σ H n (YRow xs W) := fun H1 e R k => by
  subst hn
  exact h H1 e _ fun H2 e2 => ⟨a, rfl, ⟨xs, ex_t (e.trans e2) hx⟩, k _ (fun A => SqT K A a xs ∧ W A) H2 e2 (walk_tup.mono (fun _ q => q.1) fun i A v A' hi q y => ⟨y.1, y.2, q.2⟩) fun A ab _ => ⟨ex_t ab hx, hW A ab⟩⟩
theorem ei_rng3 {ta : TA} {i j c : Int} {n : Nat} (h : EvA ta σ H [.int i, .int j, .int c]) (hr : RgC i j c n) : EvI (iRng3 ta) σ H n (YFn fun k => .int (i + (k : Nat) * c)) := fun H1 e R k =>
  h H1 e _ fun H2 e2 => ⟨i, j, c, n, rfl, hr, k _ _ H2 e2 walk_rangeC fun _ _ _ => trivial⟩
end
section
open Evl
variable {K : PySem.W.Frag} {σ : L2.St} {H : Hp}
/-- tuple(list made now) -/
theorem en_tupNL {ta : TE} {L : List V → Hp → Prop} (h : EvNL ta σ H L) : EvN (tCB (fun xs H Q => ∃ p ys, xs = [V.ref p] ∧ ((SqL K H p ys ∧ ∀ l, H l = none → Q (V.ref l) (upd H l (HO.tup ys))) ∨ (SqT K H p ys ∧ Q (V.ref p) H))) (tCons ta tNil)) σ H
    (fun u H' => ∃ t xs, u = .ref t ∧ H' t = some (.tup xs) ∧ L xs H') := fun H1 e Q q =>
  h H1 e _ fun p xs H2 hp e2 h2 hL => ⟨p, xs, rfl, .inl ⟨sq_of h2, fun t ht => q _ _ (e2.trans (Ex.new ht)) fun H3 h3 s3 => ⟨t, xs, rfl, s3 _ _ (fresh_back e2 ht) upd_same, hL H3 h3 fun a o _ ha hb => by
    refine s3 a o ha ?_
    rw [upd_ne (ne_of_none hb ht)]
    exact hb⟩⟩⟩
end
theorem ev_anyN {K : PySem.W.Frag} {ta : TE} {σ : L2.St} {H : Hp} {bs : List Bool} (h : Evl.EvL ta σ H (bs.map V.bl)) : Evl.Ev (tCB (rAny K) (tCons ta tNil)) σ H (.bl (bs.any id)) := fun H1 e Q q =>
  h H1 e _ fun p H2 hp e2 h2 => ⟨p, bs, rfl, Evl.sq_of h2, q H2 e2⟩
/-- a for over what EvI tells; the body may write what is not of the walk -/
theorem s_forI {wi : TI} {g : TG} {tb : TS} {D : Ends} {σ : L2.St} {H B : Hp} {n : Nat} {Y : Nat → Hp → V → Hp → Prop} {s : Nat → L2.St → L2.St} (hw : EvI wi σ B n Y) (aim : Aims g n Y s) (e : Evl.Ex B H) (Pv : Hp → Nat → L2.St → Hp → Prop) (h0 : ∀ H2, Evl.Ex H H2 → Pv H2 0 σ H2)
    (hk : ∀ H2 i σ' H', Evl.Ex H H2 → i ≤ n → Pv H2 i σ' H' → Evl.Ex B H' ∧ Since H H2 H') (hs : ∀ H2 i σ' H' H'', Evl.Ex H H2 → i < n → Pv H2 i σ' H' → Evl.Ex H' H'' → tb { D with nx := Pv H2 (i + 1), ct := Pv H2 (i + 1), bk := D.nx } (s i σ') H'')
    (hd : ∀ H2 σ' H', Evl.Ex H H2 → Pv H2 n σ' H' → D.nx σ' H') : tFor wi g tb D σ H :=
  hw H e _ fun J G H2 e2 w sG => for_it w (Pv H2) (h0 H2 e2) (fun i σ' H' hi p => sG H' (hk H2 i σ' H' e2 hi p).1 (hk H2 i σ' H' e2 hi p).2)
    (fun i x σ' H' H'' hi p y => by
      obtain ⟨ab, k⟩ := aim i σ' H' x H'' hi y
      exact k _ (hs H2 i σ' H' H'' e2 hi p ab)) (fun σ' H' p => hd H2 σ' H' e2 p)
theorem q_forI {wi : TI} {g : TG} {tb tz : TS} {D : Ends} {σ : L2.St} {H B : Hp} {n : Nat} {Y : Nat → Hp → V → Hp → Prop} {s : Nat → L2.St → L2.St} (hw : EvI wi σ B n Y) (aim : Aims g n Y s) (e : Evl.Ex B H) (Pv : Hp → Nat → L2.St → Hp → Prop) (h0 : ∀ H2, Evl.Ex H H2 → Pv H2 0 σ H2)
    (hk : ∀ H2 i σ' H', Evl.Ex H H2 → i ≤ n → Pv H2 i σ' H' → Evl.Ex B H' ∧ Since H H2 H') (hs : ∀ H2 i σ' H' H'', Evl.Ex H H2 → i < n → Pv H2 i σ' H' → Evl.Ex H' H'' → tb { D with nx := Pv H2 (i + 1), ct := Pv H2 (i + 1), bk := tz D } (s i σ') H'')
    (hd : ∀ H2 σ' H', Evl.Ex H H2 → Pv H2 n σ' H' → tz D σ' H') : tSeq (tFor wi g tb) tz D σ H := s_forI (D := { D with nx := tz D }) hw aim e Pv h0 hk hs hd
theorem el_catVN {σ : L2.St} {H : Hp} {ta tb : TE} {m : Addr} {xs ys : List V} (ha : Evl.Ev ta σ H (.ref m)) (hm : H m = some (.lst xs)) (hb : Evl.EvL tb σ H ys) (hz : xs.length + ys.length ≤ 100000) : Evl.EvL (tOp rCat ta tb) σ H (xs ++ ys) := fun H1 e Q q =>
  ha H1 e _ fun H2 e2 => hb H2 (e.trans e2) _ fun p H3 _ e3 h3 => ⟨m, p, xs, ys, rfl, rfl, e3 _ _ (e2 _ _ (e _ _ hm)), h3, Evl.sz_of hz, fun r hr => q r _ (Evl.fresh_back (e2.trans e3) hr) ((e2.trans e3).trans (Evl.Ex.new hr)) upd_same⟩
/-- a, b = a row of two -/
theorem aims_rowT2 {K : PySem.W.Frag} {xs : List V} {n j1 j2 : Nat} {c : Nat → V × V} : Aims (gTup K 2 (gCons (gName j1) (gCons (gName j2) gNil))) n
    (YRow xs fun H => ∀ i v, i < n → xs[i]? = some v → ∃ r, v = .ref r ∧ H r = some (.tup [(c i).1, (c i).2])) (fun i σ => (σ.set j1 (some (c i).1)).set j2 (some (c i).2)) := fun i σ H v H' hi y => by
  obtain ⟨rfl, hv, w⟩ := y
  obtain ⟨r, rfl, hr⟩ := w i v hi hv
  exact ⟨Evl.Ex.refl _, fun Q q => ⟨r, _, rfl, Evl.st_of hr, rfl, _, _, rfl, _, _, rfl, rfl, q⟩⟩
/-- a, b, c = a row of three, a list -/
theorem aims_rowL3 {K : PySem.W.Frag} {xs : List V} {n j1 j2 j3 : Nat} {c : Nat → V × V × V} : Aims (gLst K 3 (gCons (gName j1) (gCons (gName j2) (gCons (gName j3) gNil)))) n
    (YRow xs fun H => ∀ i v, i < n → xs[i]? = some v → ∃ r, v = .ref r ∧ H r = some (.lst [(c i).1, (c i).2.1, (c i).2.2])) (fun i σ => ((σ.set j1 (some (c i).1)).set j2 (some (c i).2.1)).set j3 (some (c i).2.2)) := fun i σ H v H' hi y => by
  obtain ⟨rfl, hv, w⟩ := y
  obtain ⟨r, rfl, hr⟩ := w i v hi hv
  exact ⟨Evl.Ex.refl _, fun Q q => ⟨r, _, rfl, Evl.sq_of hr, rfl, _, _, rfl, _, _, rfl, _, _, rfl, rfl, q⟩⟩
theorem joinL_length (S : List Nat) : ∀ ps : List (List Nat), (TL.joinL S ps).length ≤ (ps.map List.length).sum + ps.length * S.length
  | [] => by unfold TL.joinL; simp
  | [p] => by unfold TL.joinL; simp
  | p :: q :: r => by
    have ih := joinL_length S (q :: r)
    have e : TL.joinL S (p :: q :: r) = p ++ (S ++ TL.joinL S (q :: r)) := rfl
    rw [e, List.length_append, List.length_append, List.map_cons, List.sum_cons, List.length_cons, Nat.add_mul]
    omega
theorem tl_length (s : Str) : (TL.tl s).length = s.length := (TL.len_tl s).symm
theorem join_len (y : Str) (ps : List Str) : (Txt.join y ps).length ≤ (ps.map (·.length)).sum + ps.length * y.length := by
  rw [← tl_length, TL.join_eq, TL.tl_join]
  refine Nat.le_trans (joinL_length _ _) ?_
  rw [List.map_map, List.length_map, tl_length]
  have : (ps.map (List.length ∘ TL.tl)) = ps.map (·.length) := List.map_congr_left fun p _ => tl_length p
  rw [this] <;> exact Nat.le_refl _
end Hk
namespace Hk
open PySem PySem.Spec PyProof.Rows L2 Tl
open Evl
theorem ev_neNilL {K : PySem.W.Frag} {σ : L2.St} {H : Hp} {ta : TE} {cs : List Int} (h : EvL ta σ H (cs.map V.int)) : Ev (tOp (rNeD K) ta (tLst tNil)) σ H (.bl (!cs.isEmpty)) :=
  ev_opLL (ys := []) h (el_lst ea_nil (Nat.zero_le _)) fun p q H1 h1 h2 _ => fun H2 e2 Q k => by
    refine ⟨.list (zD cs), .list [], .lst (sq_of (e2 _ _ h1)) (dp_zD cs), .lst (sq_of (e2 _ _ h2)) .nil, PySem.W.ke_shaped_ints cs, by decide +kernel, ?_⟩
    have e3 : PyData.eqv (.list (zD cs)) (.list []) = cs.isEmpty := by cases cs <;> rfl
    rw [e3]
    exact k H2 (Ex.refl H2)
/-- the heap without one object -/
def but (t : Addr) (H : Hp) : Hp := fun a => if a = t then none else H a
theorem but_le {t : Addr} {H : Hp} : Ex (but t H) H := fun a o h => by
  unfold but at h
  split at h
  · cases h
  · exact h
theorem but_at {t a : Addr} {H : Hp} (h : a ≠ t) : but t H a = H a := if_neg h
/-- a comprehension whose body draws -/
theorem go_lcT {wi : TI} {g : TG} {tt : TT} {te : TE} {vs : List Nat} {n : Nat} {Y : Nat → Hp → V → Hp → Prop} {s : Nat → L2.St → L2.St} {σ : L2.St} {H : Hp} {Q : VK} {t : Addr} {o : HO} (ho : H t = some o)
    (hw : EvI wi σ (but t H) n Y) (aim : Aims g n Y s) (hs : ∀ i, wipe (s i (wipe σ vs)) vs = wipe σ vs) (hn : n ≤ 40000) (R : Nat → List V → Hp → Prop)
    (h0 : ∀ H2, Ex H H2 → R 0 [] H2) (hx : ∀ i acc A B, R i acc A → Ex A B → R i acc B)
    (hu : ∀ i acc A D l l', H D = none → D ≠ t → A D = some (.lst l) → R i acc A → R i acc (upd A D (.lst l')))
    (hst : ∀ i acc A (F1 : V → Hp → Prop) (F2 : Hp → Prop), i < n → (∀ a o, a ≠ t → H a = some o → A a = some o) → acc.length ≤ i → R i acc A →
      (∀ y H4, (∀ a o, a ≠ t → A a = some o → H4 a = some o) → R (i + 1) (acc ++ [y]) H4 → F1 y H4) → (∀ H3, (∀ a o, a ≠ t → A a = some o → H3 a = some o) → R (i + 1) acc H3 → F2 H3) →
      tt (s i (wipe σ vs)) A fun b H3 => if b = true then te (s i (wipe σ vs)) H3 F1 else F2 H3)
    (hd : ∀ D acc A, H D = none → D ≠ t → A D = some (.lst acc) → acc.length ≤ n → (∀ a o, a ≠ t → H a = some o → A a = some o) → R n acc A → Q (.ref D) A) : tLc wi g tt te vs σ H Q :=
  hw H but_le _ fun J G H2 e2 w sG D hD => by
    have D0 : H D = none := fresh_back e2 hD
    have Dt : D ≠ t := fun z => by rw [z, ho] at D0; cases D0
    have kp : ∀ {A : Hp}, (∀ a o, a ≠ t → H2 a = some o → A a = some o) → ∀ a o, a ≠ t → H a = some o → A a = some o := fun k a o ha h => k a o ha (e2 _ _ h)
    refine lc_it w (fun i A => (∀ a o, a ≠ t → H2 a = some o → A a = some o) ∧ ∃ acc, A D = some (.lst acc) ∧ acc.length ≤ i ∧ R i acc A) ⟨fun a o _ h => Ex.new hD a o h, [], upd_same, Nat.le_refl _, h0 _ (e2.trans (Ex.new hD))⟩ (fun i A _ p => sG A (fun a o h => ?_) fun a o h1 h2 => p.1 a o (fun z => by rw [z, ho] at h1; cases h1) h2)
      (fun i x A B hi p y => ?_) (fun A ⟨p1, acc, p2, p5, p3⟩ => hd D acc A D0 Dt p2 p5 (kp p1) p3)
    · by_cases z : a = t
      · rw [z] at h
        unfold but at h
        rw [if_pos rfl] at h
        cases h
      · rw [but_at z] at h
        exact kp p.1 a o z h
    · obtain ⟨p1, acc, p2, p3, p4⟩ := p
      obtain ⟨ab, k⟩ := aim i (wipe σ vs) A x B hi y
      refine k _ ⟨hs i, ?_⟩
      have hB : B D = some (.lst acc) := ab _ _ p2
      have pB : ∀ a o, a ≠ t → H2 a = some o → B a = some o := fun a o ha h => ab _ _ (p1 a o ha h)
      refine hst i acc B _ _ hi (kp pB) p3 (hx _ _ _ _ p4 ab) (fun y H4 k4 r4 => ?_) fun H3 k3 r3 => ⟨fun a o ha h => k3 a o ha (pB a o ha h), acc, k3 _ _ Dt hB, by omega, r3⟩
      have h4 : H4 D = some (.lst acc) := k4 _ _ Dt hB
      refine ⟨acc, h4, sz_lt (by omega), fun a o ha h => ?_, acc ++ [y], upd_same, by rw [List.length_append, List.length_singleton]; omega, hu _ _ _ _ _ _ D0 Dt h4 r4⟩
      rw [upd_ne (ne_of_none h hD)]
      exact k4 a o ha (pB a o ha h)
end Hk
end S_Wn
section S_Wo
namespace Hk
open PySem PySem.Spec PyProof.Rows L2 Tl
mutual
theorem dp_ex {K : PySem.W.Frag} {H H' : Hp} (e : Evl.Ex H H') : ∀ {v : V} {d : PyData}, Dp K H v d → Dp K H' v d
  | _, _, .non => .non
  | _, _, .bl b => .bl b
  | _, _, .int i => .int i
  | _, _, .str x => .str x
  | _, _, .lst h a => .lst (Evl.ex_l e h) (dpa_ex e a)
  | _, _, .tup h a => .tup (Evl.ex_t e h) (dpa_ex e a)
theorem dpa_ex {K : PySem.W.Frag} {H H' : Hp} (e : Evl.Ex H H') : ∀ {vs : List V} {ds : List PyData}, DpAll K H vs ds → DpAll K H' vs ds
  | _, _, .nil => .nil
  | _, _, .cons h a => .cons (dp_ex e h) (dpa_ex e a)
end
/-- a value that can be compared -/
def DpS (K : PySem.W.Frag) (H : Hp) (v : V) : Prop := ∃ d, Dp K H v d ∧ d.canLay0 = true ∧ d.depth ≤ 5
theorem DpS.ex {K : PySem.W.Frag} {H H' : Hp} {v : V} (h : DpS K H v) (e : Evl.Ex H H') : DpS K H' v := h.imp fun d ⟨a, b⟩ => ⟨dp_ex e a, b⟩
theorem lay_all : ∀ {ds : List PyData}, (∀ d ∈ ds, d.canLay0 = true) → PyData.canLayAll0 ds = true
  | [], _ => rfl
  | d :: r, h => by
    unfold PyData.canLayAll0
    rw [h d List.mem_cons_self, lay_all fun x hx => h x (List.mem_cons_of_mem _ hx)]
    rfl
theorem deep_all {c : Nat} : ∀ {ds : List PyData}, (∀ d ∈ ds, d.depth ≤ c) → PyData.depthAll ds ≤ c
  | [], _ => Nat.zero_le _
  | d :: r, h => by
    unfold PyData.depthAll
    have h1 := h d List.mem_cons_self
    have h2 := deep_all fun x hx => h x (List.mem_cons_of_mem _ hx)
    omega
theorem shaped_list {c : Nat} (hc : c ≤ 60) {ds : List PyData} (h : ∀ d ∈ ds, d.canLay0 = true ∧ d.depth ≤ c) : SeqAt.shaped (.list ds) = true := by
  unfold SeqAt.shaped
  have h1 : (PyData.list ds).canLay0 = true := by unfold PyData.canLay0; exact lay_all fun d hd => (h d hd).1
  have h2 : (PyData.list ds).depth ≤ 64 := by
    have := deep_all fun d hd => (h d hd).2
    unfold PyData.depth
    omega
  rw [h1, decide_eq_true h2] <;> rfl
theorem dps_all {K : PySem.W.Frag} {H : Hp} : ∀ {xs : List V}, (∀ v ∈ xs, DpS K H v) → ∃ ds, DpAll K H xs ds ∧ (∀ d ∈ ds, d.canLay0 = true ∧ d.depth ≤ 5) ∧ ds.length = xs.length
  | [], _ => ⟨[], .nil, fun d hd => (nomatch hd), rfl⟩
  | v :: r, h => by
    obtain ⟨d, a, b⟩ := h v List.mem_cons_self
    obtain ⟨ds, c1, c2, c3⟩ := dps_all (xs := r) fun x hx => h x (List.mem_cons_of_mem _ hx)
    refine ⟨d :: ds, .cons a c1, fun x hx => ?_, by rw [List.length_cons, List.length_cons, c3]⟩
    rcases List.mem_cons.mp hx with rfl | hx
    · exact b
    · exact c2 x hx
theorem eqv_nil (ds : List PyData) : PyData.eqv (.list ds) (.list []) = ds.isEmpty := by
  cases ds with
  | nil => rfl
  | cons d r => rfl
section
open Evl
variable {K : PySem.W.Frag} {σ : L2.St} {H : Hp} {ta tb : TE}
theorem ev_eqNilD {xs : List V} (ha : EvL ta σ H xs) (hb : EvL tb σ H []) (hx : ∀ v ∈ xs, DpS K H v) : Ev (tOp (rEqD K) ta tb) σ H (.bl xs.isEmpty) :=
  ev_opLL ha hb fun p q H1 h1 h2 e1 => fun H2 e2 Q k => by
    obtain ⟨ds, d1, d2, d3⟩ := dps_all (K := K) (H := H2) (xs := xs) fun v hv => (hx v hv).ex (e1.trans e2)
    refine ⟨.list ds, .list [], .lst (sq_of (e2 _ _ h1)) d1, .lst (sq_of (e2 _ _ h2)) .nil, shaped_list (c := 5) (by decide) d2, shaped_list (c := 5) (by decide) (fun d hd => nomatch hd), ?_⟩
    rw [eqv_nil]
    have : ds.isEmpty = xs.isEmpty := by cases ds <;> cases xs <;> first | rfl | (cases d3)
    rw [this]
    exact k H2 (Ex.refl H2)
theorem ev_neNilD {xs : List V} (ha : EvL ta σ H xs) (hb : EvL tb σ H []) (hx : ∀ v ∈ xs, DpS K H v) : Ev (tOp (rNeD K) ta tb) σ H (.bl !xs.isEmpty) :=
  ev_opLL ha hb fun p q H1 h1 h2 e1 => fun H2 e2 Q k => by
    obtain ⟨ds, d1, d2, d3⟩ := dps_all (K := K) (H := H2) (xs := xs) fun v hv => (hx v hv).ex (e1.trans e2)
    refine ⟨.list ds, .list [], .lst (sq_of (e2 _ _ h1)) d1, .lst (sq_of (e2 _ _ h2)) .nil, shaped_list (c := 5) (by decide) d2, shaped_list (c := 5) (by decide) (fun d hd => nomatch hd), ?_⟩
    rw [eqv_nil]
    have : ds.isEmpty = xs.isEmpty := by cases ds <;> cases xs <;> first | rfl | (cases d3)
    rw [this]
    exact k H2 (Ex.refl H2)
end
end Hk
end S_Wo
section S_Kd
namespace P60
open PySem PySem.Spec PyProof.Rows L2 Tl Hk
/-- nine signs -/
def sg (x : Bool) : Nat := if x = true then 49 else 48
def sS (b : List Bool) : Str := ⟨(b.map sg).toArray⟩
/-- the text of a number -/
def dS (n : Nat) : Str := Str.ofString (toString ((n : Nat) : Int))
def nums : List Nat := [0, 1, 2, 3, 4, 5, 10, 77, 998, 999]
def nines : Str := ⟨(List.replicate 141 57).toArray⟩
def base0 : List Str := (["", "/", "0", "1", "2", "3", "-1", "00", "01", "+1", "1_0", "x", "000000000", "111111111", "00000000", "0000000000", "00000000x", "222222222", nines, "999", "1000", "0999", "9", "899"] : List Str) ++ nums.map dS
def Item (s : Str) : Prop := s ∈ base0 ∨ ∃ b : List Bool, b.length = 9 ∧ s = sS b
def cut0 (s : Str) : Str := Txt.removeprefix s "-"
def badP (s : Str) : Bool := !Txt.isascii (cut0 s) || (!Txt.isdigit (cut0 s) || decide (140 < (cut0 s).length))
def zeroP (s : Str) : Bool := Txt.startswith (cut0 s) "0" && !decide (s = "0")
def num (s : Str) : Option Nat := if badP s then none else if zeroP s then none else match PySem.intText? s with
  | some i => if (decide ((0 : Int) ≤ i) && decide (i ≤ 999)) = true then some i.toNat else none
  | none => none
def inNum (c : Nat) : Bool := !(Builtin.Str.occurrences ("0123456789" : Str) (⟨#[c]⟩ : Str) 0 ("0123456789" : Str).length 1).isEmpty
def in2 (c : Nat) : Bool := !(Builtin.Str.occurrences ("01" : Str) (⟨#[c]⟩ : Str) 0 ("01" : Str).length 1).isEmpty
def badL (s : Str) : Bool := decide (s = "") || (decide (3 < s.length) || s.cps.toList.any fun c => !inNum c)
def numL (s : Str) : Option Nat := if badL s then none else if (!decide (s.cps[0]? = some 48) || decide (s = "0")) = true then (PySem.intText? s).map Int.toNat else none
def okS (s : Str) : Bool := decide (num s = numL s) && ((badP s || zeroP s || ((PySem.intText? s).isSome && decide (s.length ≤ 141))) && ((badL s || ((PySem.intText? s).any fun i => decide (0 ≤ i) && decide (i ≤ 999))) && (decide (s.length ≤ 141) && (!s.cps.toList.contains 32 && (decide ((cut0 s).length ≤ 141) && (PyData.strOk s && ((s.cps.toList.all fun c => PyData.strOk ⟨#[c]⟩) && (((num s).all fun n => decide (dS n = s) && decide (n < 1000)) && s.cps.toList.all fun c => decide (in2 c = (decide (c = 48) || decide (c = 49)))))))))))
set_option maxHeartbeats 4000000 in
theorem ok_base : ∀ s ∈ base0, okS s = true := by decide +kernel
set_option maxHeartbeats 4000000 in
theorem ok_signs9 : ∀ b0 b1 b2 b3 b4 b5 b6 b7 b8 : Bool, okS (sS [b0, b1, b2, b3, b4, b5, b6, b7, b8]) = true := by decide +kernel
theorem nine {b : List Bool} (h : b.length = 9) : ∃ b0 b1 b2 b3 b4 b5 b6 b7 b8 : Bool, b = [b0, b1, b2, b3, b4, b5, b6, b7, b8] := by
  match b, h with
  | [b0, b1, b2, b3, b4, b5, b6, b7, b8], _ => exact ⟨_, _, _, _, _, _, _, _, _, rfl⟩
theorem Item.ok {s : Str} (h : Item s) : okS s = true := by
  rcases h with h | ⟨b, hb, rfl⟩
  · exact ok_base s h
  · obtain ⟨b0, b1, b2, b3, b4, b5, b6, b7, b8, rfl⟩ := nine hb
    exact ok_signs9 ..
theorem Item.all {s : Str} (h : Item s) : num s = numL s ∧ ((badP s || zeroP s || ((PySem.intText? s).isSome && decide (s.length ≤ 141))) = true) ∧ ((badL s || ((PySem.intText? s).any fun i => decide (0 ≤ i) && decide (i ≤ 999))) = true) ∧ s.length ≤ 141 ∧ (!s.cps.toList.contains 32) = true ∧ (cut0 s).length ≤ 141 ∧ PyData.strOk s = true ∧ (s.cps.toList.all fun c => PyData.strOk ⟨#[c]⟩) = true ∧ ((num s).all fun n => decide (dS n = s) && decide (n < 1000)) = true ∧ (s.cps.toList.all fun c => decide (in2 c = (decide (c = 48) || decide (c = 49)))) = true := by
  have := h.ok
  unfold okS at this
  rw [Bool.and_eq_true_iff, Bool.and_eq_true_iff, Bool.and_eq_true_iff, Bool.and_eq_true_iff, Bool.and_eq_true_iff, Bool.and_eq_true_iff, Bool.and_eq_true_iff, Bool.and_eq_true_iff, Bool.and_eq_true_iff] at this
  obtain ⟨a1, a2, a3, a4, a5, a6, a7, a8, a9, a10⟩ := this
  exact ⟨of_decide_eq_true a1, a2, a3, of_decide_eq_true a4, a5, of_decide_eq_true a6, a7, a8, a9, a10⟩
theorem Item.same {s : Str} (h : Item s) : num s = numL s := h.all.1
theorem Item.intP {s : Str} (h : Item s) (h1 : badP s = false) (h2 : zeroP s = false) : ∃ i, PySem.intText? s = some i := by
  have := h.all.2.1
  rw [h1, h2] at this
  simp only [Bool.false_or, Bool.and_eq_true] at this
  exact Option.isSome_iff_exists.mp this.1
theorem Item.intL {s : Str} (h : Item s) (h1 : badL s = false) : ∃ i : Nat, PySem.intText? s = some (i : Int) ∧ i ≤ 999 := by
  have := h.all.2.2.1
  rw [h1, Bool.false_or] at this
  cases e : PySem.intText? s with
  | none => rw [e] at this; cases this
  | some i =>
    rw [e] at this
    have := (Bool.and_eq_true_iff.mp (show (decide (0 ≤ i) && decide (i ≤ 999)) = true from this))
    have a1 := of_decide_eq_true this.1
    have a2 := of_decide_eq_true this.2
    exact ⟨i.toNat, by rw [Int.toNat_of_nonneg a1], by omega⟩
theorem Item.len {s : Str} (h : Item s) : s.length ≤ 141 := h.all.2.2.2.1
theorem Item.cutLen {s : Str} (h : Item s) : (cut0 s).length ≤ 141 := h.all.2.2.2.2.2.1
theorem Item.strOk {s : Str} (h : Item s) : PyData.strOk s = true := h.all.2.2.2.2.2.2.1
theorem Item.sign {s : Str} (h : Item s) {c : Nat} (hc : c ∈ s.cps.toList) : PyData.strOk ⟨#[c]⟩ = true := List.all_eq_true.mp h.all.2.2.2.2.2.2.2.1 c hc
theorem Item.back {s : Str} (h : Item s) {n : Nat} (hn : num s = some n) : s = dS n ∧ n < 1000 := by
  have := h.all.2.2.2.2.2.2.2.2.1
  rw [hn] at this
  obtain ⟨a1, a2⟩ := Bool.and_eq_true_iff.mp (show (decide (dS n = s) && decide (n < 1000)) = true from this)
  exact ⟨(of_decide_eq_true a1).symm, of_decide_eq_true a2⟩
set_option maxHeartbeats 4000000 in
theorem num_dS : ∀ n, n < 1000 → num (dS n) = some n := by decide +kernel
theorem Item.in2 {s : Str} (h : Item s) {c : Nat} (hc : c ∈ s.cps.toList) : in2 c = (decide (c = 48) || decide (c = 49)) := of_decide_eq_true (List.all_eq_true.mp h.all.2.2.2.2.2.2.2.2.2 c hc)
theorem Item.no32 {s : Str} (h : Item s) : 32 ∉ TL.tl s := by
  have := h.all.2.2.2.2.1
  simp only [Bool.not_eq_true', List.contains_eq_mem, decide_eq_false_iff_not] at this
  exact this
end P60
end S_Kd
section S_Ke
namespace Hk
open PySem PySem.Spec PyProof.Rows L2 Tl
section
open Evl
variable {K : PySem.W.Frag} {σ : L2.St} {H : Hp}
def YStr (z : Str) : Nat → Hp → V → Hp → Prop := fun i H v H' => H' = H ∧ ∃ c, z.cps[i]? = some c ∧ v = .str ⟨#[c]⟩
theorem ei_str {te : TE} {z : Str} (h : Ev te σ H (.str z)) : EvI (iStr te) σ H z.cps.size (YStr z) := fun H1 e R k =>
  h H1 e _ fun H2 e2 => ⟨z, rfl, k _ _ H2 e2 walk_str fun _ _ _ => trivial⟩
theorem aims_str {z : Str} {n j : Nat} : Aims (gName j) n (YStr z) (fun i σ => σ.set j (some (.str ⟨#[z.cps.getD i 0]⟩))) := fun i σ H v H' hi y => by
  obtain ⟨rfl, c, hc, rfl⟩ := y
  have : z.cps.getD i 0 = c := by rw [Array.getD_eq_getD_getElem?, hc]; rfl
  refine ⟨Ex.refl _, fun Q q => ?_⟩
  have q : Q (σ.set j (some (V.str ⟨#[z.cps.getD i 0]⟩))) H' := q
  rw [this] at q
  exact q
theorem ev_lenS {te : TE} {z : Str} (h : Ev te σ H (.str z)) (hz : z.length ≤ sizeLine) : Ev (tCB (fun xs H Q => ∃ a : Str, xs = [V.str a] ∧ a.length ≤ sizeLine ∧ Q (.int (a.length : Int)) H) (tCons te tNil)) σ H (.int (z.length : Int)) := fun H1 e Q q =>
  h H1 e _ fun H2 e2 => ⟨z, rfl, hz, q H2 e2⟩
end
/-- whether some sign is of a kind, by the list of them -/
theorem none_any {z : Str} {f : Nat → Bool} : (!(Evl.given z.cps.size (fun i => f (z.cps.getD i 0)) fun i => V.str ⟨#[z.cps.getD i 0]⟩).isEmpty) = z.cps.toList.any f := by
  unfold Evl.given
  rw [Bool.eq_iff_iff, List.any_eq_true, Bool.not_eq_true', ← Bool.not_eq_true, List.isEmpty_iff, List.map_eq_nil_iff, List.filter_eq_nil_iff]
  constructor
  · intro h
    obtain ⟨i, hi⟩ := Classical.not_forall.mp h
    obtain ⟨h1, h2⟩ := Classical.not_imp.mp hi
    have h1 := List.mem_range.mp h1
    have h2 := Classical.not_not.mp h2
    rw [Array.getD_eq_getD_getElem?, Array.getElem?_eq_getElem h1] at h2
    exact ⟨_, Array.mem_toList_iff.mpr (Array.getElem_mem h1), h2⟩
  · rintro ⟨c, hc, hf⟩ h
    obtain ⟨i, hi, rfl⟩ := Array.mem_iff_getElem.mp (Array.mem_toList_iff.mp hc)
    refine h i (List.mem_range.mpr hi) ?_
    rw [Array.getD_eq_getD_getElem?, Array.getElem?_eq_getElem hi]
    exact hf
theorem dps_signs {K : PySem.W.Frag} {H : Hp} {z : Str} {f : Nat → Bool} (hz : ∀ c ∈ z.cps.toList, PyData.strOk ⟨#[c]⟩ = true) : ∀ v ∈ Evl.given z.cps.size f (fun i => V.str ⟨#[z.cps.getD i 0]⟩), DpS K H v := fun v hv => by
  unfold Evl.given at hv
  obtain ⟨i, hi, rfl⟩ := List.mem_map.mp hv
  have hi := List.mem_range.mp (List.mem_filter.mp hi).1
  refine ⟨.str _, .str _, ?_, by show 0 ≤ 5; omega⟩
  unfold PyData.canLay0
  rw [Array.getD_eq_getD_getElem?, Array.getElem?_eq_getElem hi]
  exact hz _ (Array.mem_toList_iff.mpr (Array.getElem_mem hi))
end Hk
namespace P60
open PySem PySem.Spec PyProof.Rows L2 Tl Hk
def numV : Option Nat → V
  | none => .non
  | some n => .int (n : Int)
theorem scNumberIn : FnScope ["item", "least", "most", "digits", "number"] ["item", "least", "most"] (defScope sNumberIn) := ⟨rfl, rfl, rfl, by decide +kernel, rfl, by decide +kernel, by decide +kernel⟩
theorem scLNumber : FnScope ["item", "sign"] ["item"] (defScope sLNumber) := ⟨rfl, rfl, rfl, by decide +kernel, rfl, by decide +kernel, by decide +kernel⟩
def rNotInS : R2 := fun x y H Q => ∃ i j, x = .str i ∧ y = .str j ∧ Q (.bl (!(!(Builtin.Str.occurrences j i 0 j.length 1).isEmpty))) H
def spNumberIn : Sp := fun vs H Q _ => ∃ s : Str, vs = [.str s, .int 0, .int 999] ∧ Item s ∧ ∀ H1, Evl.Ex H H1 → Q (numV (num s)) H1
theorem spv_numberIn {H : Hp} {s : Str} (h : Item s) : Evl.SpV spNumberIn [.str s, .int 0, .int 999] H (numV (num s)) := fun H1 e Q q E => ⟨s, rfl, h, q⟩
def spLNumber : Sp := fun vs H Q _ => ∃ s : Str, vs = [.str s] ∧ Item s ∧ ∀ H1, Evl.Ex H H1 → Q (numV (num s)) H1
theorem spv_lNumber {H : Hp} {s : Str} (h : Item s) : Evl.SpV spLNumber [.str s] H (numV (num s)) := fun H1 e Q q E => ⟨s, rfl, h, q⟩
section
variable {P : Program} {w : World} {K : PySem.W.Frag} {mg : Str → Option Value} {base : Heap}
theorem ok_numberIn {f fW : Addr} {fd fdW : FuncData} {k : Nat} (F : Fun K "number_in" "number_in" sNumberIn f fd)
    (FW : Fun K "is_within" "is_within" sWithin fW fdW) (GW : FnOk P w K mg base CX0 k fW fdW ["value", "least", "most"] (spWithin K)) (bW : Binds K fdW ["value", "least", "most"] []) (gW : mg "is_within" = some (.ref fW))
    {tM : Tok} (gM : mg "MOST_DIGITS" = some (.int 140 tM)) (mlen : mg "len" = none) (mint : mg "int" = none) : FnOk P w K mg base CX0 (k + 1) f fd ["item", "least", "most"] spNumberIn := by
  refine F.ok scNumberIn (fun vs H Q E h => ?_) (fun cdv A outer s H vs Q E hr h => ?_)
  · obtain ⟨s, rfl, _⟩ := h
    rfl
  · obtain ⟨z, rfl, hz, q⟩ := h
    have nd := scNumberIn.nd
    refine ⟨_, pss_cons (ps_set (i := 3) nd rfl (.inl rfl) (pe_bm PySem.F.plainAttrs_str PySem.F.slot_str_removeprefix PySem.F.type_str_removeprefix mt_removeprefix (pv 0) (pa_cons pe_str pa_nil)))
      (pss_cons (ps_if (PW.pt (pw_or (pt_not (pt_val (pe_bm0 PySem.F.plainAttrs_str PySem.F.slot_str_isascii PySem.F.type_str_isascii mt_isascii (pv 3)))) (pw_or (pt_not (pt_val (pe_bm0 PySem.F.plainAttrs_str PySem.F.slot_str_isdigit PySem.F.type_str_isdigit mt_isdigit (pv 3))))
          (pw_or1 (pt_cmpR op_gt (pe_callB call_len_str (by rfl) mlen PySem.boot_len (pa_cons (pv 3) pa_nil)) (pe_glob (v := .int 140) (by rfl) gM ⟨_, rfl⟩) (nomark _)))))) (pss_one (ps_ret pe_non)) pss_nil)
      (pss_cons (ps_if (PW.pt (pw_and (pt_val (pe_bm PySem.F.plainAttrs_str PySem.F.slot_str_startswith PySem.F.type_str_startswith mt_startswith (pv 3) (pa_cons pe_str pa_nil))) (pw_and1 (pt_cmpR op_ne (pv 0) pe_str (nomark _))))) (pss_one (ps_ret pe_non)) pss_nil)
      (pss_cons (ps_set (i := 4) nd rfl (.inl rfl) (pe_callTy call_int_str (by rfl) mint (by decide +kernel) (pa_cons (pv 0) pa_nil)))
      (pss_one (ps_ret (pe_ifExp (pt_val (pe_call GW hr (by rfl) gW FW.kp bW .nil pass0 (pa_cons (pv 4) (pa_cons (pv 1) (pa_cons (pv 2) pa_nil))))) (pv 4) pe_non)))))), ?_⟩
    have hl := hz.len
    have sz : z.length ≤ sizeLine := by rw [sizeLine_eq]; omega
    refine ⟨.str z, rfl, rfl, z, "-", rfl, rfl, sz, ?_⟩
    dsimp only [gName]
    have sz2 : (cut0 z).length ≤ sizeLine := by have := hz.cutLen; rw [sizeLine_eq]; omega
    have b1 : Evl.EvT (tNot (tB (tBM0 K "str" (fun x xs H Q => ∃ a, x = .str a ∧ xs = [] ∧ True ∧ Q (.bl (Txt.isascii a)) H) (tVar 3)))) [some (.str z), some (.int 0), some (.int 999), some (.str (cut0 z)), none] H (!Txt.isascii (cut0 z)) := Evl.et_not (Evl.et_B fun H1 e Q' q' => ⟨.str (cut0 z), rfl, rfl, cut0 z, rfl, rfl, trivial, q' H1 (Evl.Ex.refl _)⟩)
    have b2 : Evl.EvT (tNot (tB (tBM0 K "str" (fun x xs H Q => ∃ a, x = .str a ∧ xs = [] ∧ True ∧ Q (.bl (Txt.isdigit a)) H) (tVar 3)))) [some (.str z), some (.int 0), some (.int 999), some (.str (cut0 z)), none] H (!Txt.isdigit (cut0 z)) := Evl.et_not (Evl.et_B fun H1 e Q' q' => ⟨.str (cut0 z), rfl, rfl, cut0 z, rfl, rfl, trivial, q' H1 (Evl.Ex.refl _)⟩)
    refine Evl.q_when (b := badP z) (Evl.et_or b1 fun _ => Evl.et_or b2 fun _ => Evl.et_is (Evl.et_test (Evl.ev_op (x := .int ((cut0 z).length : Int)) (fun H1 e Q' q' => ⟨.str (cut0 z), rfl, cut0 z, rfl, sz2, q' H1 (Evl.Ex.refl _)⟩) Evl.ev_c Evl.rv_I0)) (decide_eq_decide.mpr ⟨fun h => by omega, fun h => by omega⟩)) (fun hb H1 e1 => ?_) fun hb H1 e1 => ?_
    · refine Evl.s_ret (v := .non) Evl.ev_c fun H2 e2 => ?_
      have : num z = none := by unfold num; rw [if_pos hb]
      have := q H2 (e1.trans e2)
      rwa [‹num z = none›] at this
    refine Evl.q_when (b := zeroP z) (Evl.et_is (Evl.et_and (a := Txt.startswith (cut0 z) "0") (b := !decide (z = "0")) (Evl.et_B fun H1 e Q' q' => ⟨.str (cut0 z), rfl, rfl, cut0 z, "0", rfl, rfl, q' H1 (Evl.Ex.refl _)⟩) fun _ => Evl.et_is (Evl.et_test (Evl.ev_op (Evl.ev_var rfl) Evl.ev_c (Evl.rv_ne rfl))) (by
        by_cases y : z = "0"
        · rw [decide_eq_true y, decide_eq_true (congrArg V.str y)]
        · rw [decide_eq_false y, decide_eq_false fun u => y (V.str.inj u)])) rfl) (fun hb2 H2 e2 => ?_) fun hb2 H2 e2 => ?_
    · refine Evl.s_ret (v := .non) Evl.ev_c fun H3 e3 => ?_
      have hn : num z = none := by unfold num; rw [if_neg (by rw [hb]; decide), if_pos hb2]
      have := q H3 ((e1.trans e2).trans e3)
      rwa [hn] at this
    obtain ⟨i, hi⟩ := hz.intP hb hb2
    refine Evl.q_asg (v := .int i) (fun H1 e Q' q' => ⟨.str z, rfl, z, i, rfl, hi, by omega, q' H1 (Evl.Ex.refl _)⟩) fun H3 e3 => ?_
    refine Evl.s_ret (v := numV (num z)) (Evl.ev_if (b := decide ((0 : Int) ≤ i) && decide (i ≤ 999)) (Evl.et_is (Evl.et_B (Evl.ev_call (Evl.ea_cons (Evl.ev_var rfl) (Evl.ea_cons (Evl.ev_var rfl) (Evl.ea_cons (Evl.ev_var rfl) Evl.ea_nil))) (spv_within (.int _) trivial trivial))) rfl) (fun hc => Evl.ev_is (Evl.ev_var rfl) ?_) (fun hc => Evl.ev_is Evl.ev_c ?_)) fun H4 e4 => q H4 (((e1.trans e2).trans e3).trans e4)
    · have a1 := of_decide_eq_true (Bool.and_eq_true_iff.mp hc).1
      unfold num
      rw [if_neg (by rw [hb]; decide), if_neg (by rw [hb2]; decide), hi]
      dsimp only
      rw [if_pos hc]
      show V.int i = V.int (i.toNat : Int)
      rw [Int.toNat_of_nonneg a1]
    · unfold num
      rw [if_neg (by rw [hb]; decide), if_neg (by rw [hb2]; decide), hi]
      dsimp only
      rw [if_neg (by rw [hc]; decide)]
      rfl
theorem ok_lNumber {f : Addr} {fd : FuncData} {k : Nat} (F : Fun K "_law_number" "_law_number" sLNumber f fd) (mlen : mg "len" = none) (mint : mg "int" = none) : FnOk P w K mg base CX0 (k + 1) f fd ["item"] spLNumber := by
  refine F.ok scLNumber (fun vs H Q E h => ?_) (fun cdv A outer s H vs Q E hr h => ?_)
  · obtain ⟨s, rfl, _⟩ := h
    rfl
  · obtain ⟨z, rfl, hz, q⟩ := h
    have nd := scLNumber.nd
    refine ⟨_, pss_cons (ps_if (PW.pt (pw_or (pt_cmpR op_eq (pv 0) pe_str (nomark _)) (pw_or (pt_cmpR op_gt (pe_callB call_len_str (by rfl) mlen PySem.boot_len (pa_cons (pv 0) pa_nil)) pe_int (nomark _))
        (pw_or1 (pt_cmpR (op_neD hr.units) (pe_lc (own := [("sign", 1)]) (g := gName 1) (tt := tTest (tOp rNotInS (tVar 1) (tC (.str "0123456789")))) (te := tVar 1) rfl nd (pi_str (pv 0)) (blkOk_by (N := ["item", "sign"]) (sc := defScope sLNumber) (by decide +kernel)) (fun _ _ _ _ _ => pg_name (i := 1) nd rfl (Or.inl rfl))
          (fun _ _ _ _ _ => pts_one (pt_cmpR op_notIn_str (pv 1) pe_str (by with_unfolding_all rfl))) (fun _ _ _ _ _ => pv 1)) (pe_lst pa_nil) (nomark _)))))) (pss_one (ps_ret pe_non)) pss_nil)
      (pss_one (ps_ret (pe_ifExp (PW.pt (pw_or (pt_cmpR op_ne (pe_ix ix_str (pv 0) pe_int (fun _ _ => rfl)) pe_str (nomark _)) (pw_or1 (pt_cmpR op_eq (pv 0) pe_str (nomark _))))) (pe_callTy call_int_str (by rfl) mint (by decide +kernel) (pa_cons (pv 0) pa_nil)) pe_non))), ?_⟩
    have hl := hz.len
    have sz : z.length ≤ sizeLine := by rw [sizeLine_eq]; omega
    have hsz : z.cps.size ≤ 141 := hl
    have eqS : ∀ t : Str, decide (V.str z = V.str t) = decide (z = t) := fun t => decide_eq_decide.mpr ⟨fun y => V.str.inj y, fun y => congrArg V.str y⟩
    refine Evl.q_when (b := badL z) (Evl.et_or (Evl.et_is (Evl.et_test (Evl.ev_op (Evl.ev_var rfl) Evl.ev_c (Evl.rv_eq rfl))) (eqS "")) fun _ => Evl.et_or (a := decide (3 < z.length)) (b := z.cps.toList.any fun c => !inNum c) (Evl.et_is (Evl.et_test (Evl.ev_op (x := .int (z.length : Int)) (fun H1 e Q' q' => ⟨.str z, rfl, z, rfl, sz, q' H1 (Evl.Ex.refl _)⟩) Evl.ev_c Evl.rv_I0)) (decide_eq_decide.mpr ⟨fun h => by omega, fun h => by omega⟩)) fun _ => Evl.et_is (Evl.et_test (ev_neNilD (xs := Evl.given z.cps.size (fun i => !inNum (z.cps.getD i 0)) fun i => V.str ⟨#[z.cps.getD i 0]⟩) (el_lcI (te := tVar 1) (vs := [1]) (fun i => !inNum (z.cps.getD i 0)) (fun i => V.str ⟨#[z.cps.getD i 0]⟩) (ei_str (Evl.ev_var (i := 0) rfl)) (aims_str (j := 1)) (fun _ => rfl) (by omega) (fun i H1 e hi => ?_) fun i H1 e hi _ => Evl.ev_var rfl) (Evl.el_lst Evl.ea_nil (Nat.zero_le _)) (dps_signs fun c hc => hz.sign hc))) (none_any (f := fun c => !inNum c))) (fun hb H1 e1 => ?_) fun hb H1 e1 => ?_
    · exact Evl.et_test (Evl.ev_op (x := .str ⟨#[z.cps.getD i 0]⟩) (y := .str "0123456789") (Evl.ev_var rfl) Evl.ev_c fun G eG Q' q' => ⟨_, _, rfl, rfl, q' G (Evl.Ex.refl _)⟩)
    · refine Evl.s_ret (v := .non) Evl.ev_c fun H2 e2 => ?_
      have hn : num z = none := by rw [hz.same]; unfold numL; rw [if_pos hb]
      have := q H2 (e1.trans e2)
      rwa [hn] at this
    · obtain ⟨i, hi, hi9⟩ := hz.intL hb
      have hne : 0 < z.cps.size := by
        rcases Nat.eq_zero_or_pos z.cps.size with y | y
        · exfalso
          have : z = "" := TL.ext_tl (by
            have : z.cps.toList = [] := List.length_eq_zero_iff.mp (by rw [Array.length_toList]; exact y)
            exact this)
          rw [this] at hb
          revert hb
          decide
        · exact y
      have h0 : atI z.cps.toList 0 = some z.cps[0] := by
        refine atI_nat (j := 0) ?_
        rw [Array.getElem?_toList, Array.getElem?_eq_getElem hne]
      refine Evl.s_ret (v := numV (num z)) (Evl.ev_if (b := !decide (z.cps[0]? = some 48) || decide (z = "0")) (Evl.et_or (Evl.et_is (Evl.et_test (Evl.ev_op (x := .str ⟨#[z.cps[0]]⟩) (Evl.ev_op (Evl.ev_var rfl) Evl.ev_c fun G eG Q' q' => ⟨z, _, _, rfl, rfl, sz, h0, q' G (Evl.Ex.refl _)⟩) Evl.ev_c (Evl.rv_ne rfl))) ?_) fun _ => Evl.et_is (Evl.et_test (Evl.ev_op (Evl.ev_var rfl) Evl.ev_c (Evl.rv_eq rfl))) (eqS "0")) (fun hc => Evl.ev_is (fun G eG Q' q' => ⟨.str z, rfl, z, (i : Int), rfl, hi, by omega, q' G (Evl.Ex.refl _)⟩) ?_) (fun hc => Evl.ev_is Evl.ev_c ?_)) fun H2 e2 => q H2 (e1.trans e2)
      · congr 1
        rw [Array.getElem?_eq_getElem hne]
        refine decide_eq_decide.mpr ⟨fun y => ?_, fun y => ?_⟩
        · have := V.str.inj y
          have := congrArg Str.cps this
          have h2 : (#[z.cps[0]] : Array Nat) = #[48] := this
          have h3 : [z.cps[0]] = [48] := congrArg Array.toList h2
          rw [List.cons.inj h3 |>.1]
        · rw [Option.some.inj y]
          rfl
      · rw [hz.same]
        unfold numL
        rw [if_neg (by rw [hb]; decide), if_pos hc, hi]
        rfl
      · rw [hz.same]
        unfold numL
        rw [if_neg (by rw [hb]; decide), if_neg (by rw [hc]; decide)]
        rfl
end
end P60
end S_Ke
section S_Wp
namespace Hk
open PySem PySem.Spec PyProof.Rows L2 Tl
def rIxB (K : PySem.W.Frag) : R2 := fun x y H Q => rIxL K x y H Q ∨ rIxT K x y H Q
theorem ix_any2 {X : Cx} : IxR X (rIxB X.K) := fun value slice pins s σ H x y v u Q I r1 r2 h e => h.elim (fun h => ix_list value slice pins s σ H x y v u Q I r1 r2 h e) (fun h => ix_tup value slice pins s σ H x y v u Q I r1 r2 h e)
/-- a list or a tuple -/
def SqS (K : PySem.W.Frag) (H : Hp) (a : Addr) (xs : List V) : Prop := SqL K H a xs ∨ SqT K H a xs
theorem SqS.ex {K : PySem.W.Frag} {H H' : Hp} {a : Addr} {xs : List V} (h : SqS K H a xs) (e : Evl.Ex H H') : SqS K H' a xs := h.elim (fun h => .inl (Evl.ex_l e h)) (fun h => .inr (Evl.ex_t e h))
theorem rv_ixB {K : PySem.W.Frag} {H : Hp} {v : V} {p : Addr} {xs : List V} {i : Int} (h : SqS K H p xs) (ha : atI xs i = some v) : Evl.RV (rIxB K) (.ref p) (.int i) H v := fun H1 e Q q =>
  h.elim (fun h => .inl (Evl.rv_ixL h ha H1 e Q q)) (fun h => .inr (Evl.rv_ixT h ha H1 e Q q))
theorem ev_lenB {K : PySem.W.Frag} {ta : TE} {σ : L2.St} {H : Hp} {p : Addr} {xs : List V} (ha : Evl.Ev ta σ H (.ref p)) (h : SqS K H p xs) : Evl.Ev (tCB (Evl.rLenS K) (tCons ta tNil)) σ H (.int (xs.length : Int)) := fun H1 e Q q =>
  ha H1 e _ fun H2 e2 => ⟨p, xs, rfl, h.ex (e.trans e2), q H2 e2⟩
theorem ev_ixB {K : PySem.W.Frag} {te : TE} {σ : L2.St} {H : Hp} {a : Addr} {xs : List V} {j : Nat} {v : V} (h : Evl.Ev te σ H (.ref a)) (ha : SqS K H a xs) (hv : xs[j]? = some v) : Evl.Ev (tOp (rIxB K) te (tC (.int (j : Int)))) σ H v := Evl.ev_op h Evl.ev_c (rv_ixB ha (atI_nat hv))
/-- a walk over a list or a tuple -/
def iEi (K : PySem.W.Frag) (te : TE) : TI := fun σ H R => iList K te σ H R ∨ iTup K te σ H R
theorem pi_ei {X : Cx} {tg e : Expr} {te : TE} (he : PE X e te) : PI X tg e (iEi X.K te) := ⟨fun pins s σ H R I h => h.elim (fun h => (pi_list (tg := tg) he).run pins s σ H R I h) fun h => (pi_tup (tg := tg) he).run pins s σ H R I h⟩
theorem ei_ei {K : PySem.W.Frag} {σ : L2.St} {H : Hp} {te : TE} {a : Addr} {xs : List V} (h : Evl.Ev te σ H (.ref a)) (hs : SqS K H a xs) : EvI (iEi K te) σ H xs.length (YAt xs) := fun H1 e R k => hs.elim (fun hs => .inl (ei_list h hs H1 e R k)) fun hs => .inr (ei_tup h hs H1 e R k)
/-- a, b, .. = a list or a tuple of that length -/
def gEi (K : PySem.W.Frag) (n : Nat) (t : TGs) : TG := fun v σ H Q => gLst K n t v σ H Q ∨ gTup K n t v σ H Q
theorem gEi_of {K : PySem.W.Frag} {n : Nat} {t : TGs} {a : Addr} {xs : List V} {σ : L2.St} {H : Hp} {Q : L2.St → Hp → Prop} (h : SqS K H a xs) (hn : xs.length = n) (q : t xs σ H Q) : gEi K n t (.ref a) σ H Q := h.elim (fun h => .inl ⟨a, xs, rfl, h, hn, q⟩) fun h => .inr ⟨a, xs, rfl, h, hn, q⟩
theorem pg_ei {X : Cx} {pos : Pos} {es : List Expr} {k : Nat} {t : TGs} {n : Nat} (hc : X.calm = true) (h : PGs X es t)
    (hn : (assignEach es X.env).length = n := by rfl) (hst : (assignEach es X.env).findIdx? (·.1) = none := by rfl) : PG X (.Tuple es k pos) (gEi X.K n t) :=
  ⟨fun pins s σ H v u Q I r hw => hw.elim (fun hw => (pg_lst hc h hn hst).run pins s σ H v u Q I r hw) fun hw => (pg_tup hc h hn hst).run pins s σ H v u Q I r hw⟩
noncomputable def pd (p : Prop) : Bool := @decide p (Classical.propDecidable p)
theorem pd_true {p : Prop} (h : p) : pd p = true := @decide_eq_true p (Classical.propDecidable p) h
theorem pd_false {p : Prop} (h : ¬p) : pd p = false := @decide_eq_false p (Classical.propDecidable p) h
theorem pd_of {p : Prop} (h : pd p = true) : p := @of_decide_eq_true p (Classical.propDecidable p) h
theorem pd_not {p : Prop} (h : pd p = false) : ¬p := @of_decide_eq_false p (Classical.propDecidable p) h
theorem pd_is {p : Prop} {b : Bool} (h : p ↔ b = true) : pd p = b := by
  cases b with
  | true => exact pd_true (h.mpr rfl)
  | false => exact pd_false fun z => nomatch h.mp z
end Hk
end S_Wp
section S_Kf
namespace P60
open PySem PySem.Spec PyProof.Rows L2 Tl Hk
/-- what a label tells -/
structure Lb where
  p : Nat
  l : Nat
  n : Nat
  near : List (Nat × List Bool)
def f3 : List Bool := [false, false, false]
def PieceP (p l n : Nat) (q : Nat × List Bool) : Prop := q.1 ≤ 999 ∧ q.2.length = 9 ∧ (l = 0 → q.2.take 3 = f3) ∧ (q.1 = p → q.2.getD (3 + n) false = false)
structure NearP (p l n : Nat) (near : List (Nat × List Bool)) : Prop where
  len : near.length ≤ 4
  head : ∃ b r, near = (p, b) :: r ∧ (r.map (·.1)).Pairwise (· < ·) ∧ p ∉ r.map (·.1)
  each : ∀ q ∈ near, PieceP p l n q
structure Lb.Ok (L : Lb) : Prop where
  hp : L.p ≤ 999
  hl : L.l ≤ 999
  hn : L.n < 3
  near : NearP L.p L.l L.n L.near
/-- a value, and its items if it is a list or a tuple -/
inductive ValR (K : PySem.W.Frag) (H : Hp) : V → Option (List V) → Prop where
  | no {x : V} {n : String} (h : Ty7 K H x n) (h1 : n ≠ "list") (h2 : n ≠ "tuple") : ValR K H x none
  | lst {a : Addr} {xs : List V} (h : SqL K H a xs) (hl : xs.length ≤ 4000) (hi : ∀ v ∈ xs, ∃ n, Ty7 K H v n) : ValR K H (.ref a) (some xs)
  | tup {a : Addr} {xs : List V} (h : SqT K H a xs) (hl : xs.length ≤ 4000) (hi : ∀ v ∈ xs, ∃ n, Ty7 K H v n) : ValR K H (.ref a) (some xs)
theorem ValR.ex {K : PySem.W.Frag} {H H' : Hp} {x : V} {o : Option (List V)} (h : ValR K H x o) (e : Evl.Ex H H') : ValR K H' x o := by
  cases h with
  | no h h1 h2 => exact .no (h.ex e) h1 h2
  | lst h hl hi => exact .lst (Evl.ex_l e h) hl fun v hv => (hi v hv).imp fun n hn => hn.ex e
  | tup h hl hi => exact .tup (Evl.ex_t e h) hl fun v hv => (hi v hv).imp fun n hn => hn.ex e
theorem ValR.sq {K : PySem.W.Frag} {H : Hp} {x : V} {xs : List V} (h : ValR K H x (some xs)) : ∃ a, x = .ref a ∧ SqS K H a xs ∧ xs.length ≤ 4000 ∧ ∀ v ∈ xs, ∃ n, Ty7 K H v n := by
  cases h with
  | lst h hl hi => exact ⟨_, rfl, .inl h, hl, hi⟩
  | tup h hl hi => exact ⟨_, rfl, .inr h, hl, hi⟩
theorem ValR.isList {K : PySem.W.Frag} {H : Hp} {x : V} {o : Option (List V)} (h : ValR K H x o) : Evl.SpV (spList K) [x] H (.bl o.isSome) := by
  cases h with
  | @no x n h h1 h2 =>
    have := spv_list h
    have e : (decide (n = "list") || decide (n = "tuple")) = (none : Option (List V)).isSome := by rw [decide_eq_false h1, decide_eq_false h2] <;> rfl
    rw [e] at this
    exact this
  | lst h hl hi => exact spv_list (.lst h)
  | tup h hl hi => exact spv_list (.tup h)
def rowB : Option (List V) → Bool
  | none => false
  | some xs => xs.all fun v => wi v (.int 0) .non
theorem ValR.row {K : PySem.W.Frag} {H : Hp} {x : V} {o : Option (List V)} (h : ValR K H x o) : RowR K H (.int 0) .non x (rowB o) := by
  cases h with
  | no h h1 h2 => exact .no h h1 h2
  | lst h hl hi => exact .lst h hl hi
  | tup h hl hi => exact .tup h hl hi
def seatIs (p l n : Nat) : Option (List V) := some [.int (p : Int), .int (l : Int), .int (n : Int)]
def SeatP (o : Option (List V)) : Prop := ∃ p l n : Nat, o = seatIs p l n ∧ n < 3
def SmallP (o : Option (List V)) : Prop := ∃ p l n : Nat, o = seatIs p l n ∧ n < 3 ∧ p ≤ 999 ∧ l ≤ 999
theorem wi0 {v : V} (h : wi v (.int 0) .non = true) : ∃ n : Nat, v = .int (n : Int) := by
  cases v with
  | int i =>
    have h : (decide ((0 : Int) ≤ i) && true) = true := h
    rw [Bool.and_true] at h
    exact ⟨i.toNat, by rw [Int.toNat_of_nonneg (of_decide_eq_true h)]⟩
  | _ => cases h
theorem wi0' (n : Nat) : wi (.int (n : Int)) (.int 0) .non = true := by
  show (decide ((0 : Int) ≤ (n : Int)) && true) = true
  rw [decide_eq_true (by omega)]
  rfl
theorem row3 {xs : List V} (h : rowB (some xs) = true) (h3 : xs.length = 3) : ∃ p l n : Nat, some xs = seatIs p l n := by
  match xs, h3 with
  | [a, b, c], _ =>
    have h : (wi a (.int 0) .non && (wi b (.int 0) .non && (wi c (.int 0) .non && true))) = true := h
    rw [Bool.and_eq_true_iff, Bool.and_eq_true_iff, Bool.and_eq_true_iff] at h
    obtain ⟨p, rfl⟩ := wi0 h.1
    obtain ⟨l, rfl⟩ := wi0 h.2.1
    obtain ⟨n, rfl⟩ := wi0 h.2.2.1
    exact ⟨p, l, n, rfl⟩
theorem scIsSeat : FnScope ["value"] ["value"] (defScope sIsSeat) := ⟨rfl, rfl, rfl, by decide +kernel, rfl, by decide +kernel, by decide +kernel⟩
theorem scSmall : FnScope ["value"] ["value"] (defScope sSmallSeat) := ⟨rfl, rfl, rfl, by decide +kernel, rfl, by decide +kernel, by decide +kernel⟩
theorem scSignOf : FnScope ["seat", "other"] ["seat", "other"] (defScope sSignOf) := ⟨rfl, rfl, rfl, by decide +kernel, rfl, by decide +kernel, by decide +kernel⟩
def spSeat (K : PySem.W.Frag) (R : Option (List V) → Prop) : Sp := fun vs H Q _ => ∃ (x : V) (o : Option (List V)), vs = [x] ∧ ValR K H x o ∧ ∀ H1, Evl.Ex H H1 → Q (.bl (pd (R o))) H1
theorem spv_seat {K : PySem.W.Frag} {H : Hp} {R : Option (List V) → Prop} {x : V} {o : Option (List V)} (h : ValR K H x o) : Evl.SpV (spSeat K R) [x] H (.bl (pd (R o))) := fun H1 e Q q E => ⟨x, o, rfl, h.ex e, q⟩
def spSignOf (K : PySem.W.Frag) : Sp := fun vs H Q _ => ∃ (S S2 : Addr) (p l n p2 l2 n2 : Nat), vs = [.ref S, .ref S2] ∧ SqS K H S [.int (p : Int), .int (l : Int), .int (n : Int)] ∧ SqS K H S2 [.int (p2 : Int), .int (l2 : Int), .int (n2 : Int)] ∧ l ≤ 999 ∧ l2 ≤ 999 ∧ ∀ H1, Evl.Ex H H1 → Q (.int (3 * ((l2 : Int) - l + 1) + n2)) H1
theorem spv_signOf {K : PySem.W.Frag} {H : Hp} {S S2 : Addr} {p l n p2 l2 n2 : Nat} (h : SqS K H S [.int (p : Int), .int (l : Int), .int (n : Int)]) (h2 : SqS K H S2 [.int (p2 : Int), .int (l2 : Int), .int (n2 : Int)]) (h3 : l ≤ 999) (h4 : l2 ≤ 999) : Evl.SpV (spSignOf K) [.ref S, .ref S2] H (.int (3 * ((l2 : Int) - l + 1) + n2)) := fun H1 e Q q E => ⟨S, S2, p, l, n, p2, l2, n2, rfl, h.ex e, h2.ex e, h3, h4, q⟩
theorem seat_eq {p l n p' l' n' : Nat} (h : seatIs p l n = seatIs p' l' n') : p = p' ∧ l = l' ∧ n = n' := by
  unfold seatIs at h
  simp only [Option.some.injEq, List.cons.injEq, V.int.injEq, and_true] at h
  omega
section
variable {P : Program} {w : World} {K : PySem.W.Frag} {mg : Str → Option Value} {base : Heap}
theorem ok_isSeat {f fR : Addr} {fd fdR : FuncData} {k : Nat} (F : Fun K "is_seat" "is_seat" sIsSeat f fd)
    (FR : Fun K "is_row" "is_row" sRow fR fdR) (GR : FnOk P w K mg base CX0 k fR fdR ["value", "least", "most"] (spRow K)) (bR : Binds K fdR ["value", "least", "most"] []) (gR : mg "is_row" = some (.ref fR))
    {tM : Tok} (gM : mg "LANES" = some (.int 3 tM)) (mlen : mg "len" = none) : FnOk P w K mg base CX0 (k + 1) f fd ["value"] (spSeat K SeatP) := by
  refine F.ok scIsSeat (fun vs H Q E h => ?_) (fun cdv A outer s H vs Q E hr h => ?_)
  · obtain ⟨x, o, rfl, _⟩ := h
    rfl
  · obtain ⟨x, o, rfl, hx, q⟩ := h
    refine ⟨_, pss_one (ps_ret (pe_and (pe_call GR hr (by rfl) gR FR.kp bR .nil pass0 (pa_cons (pv 0) (pa_cons pe_int (pa_cons pe_non pa_nil)))) (pe_and (pe_cmpR op_eq (pe_callB call_len_seq (by rfl) mlen PySem.boot_len (pa_cons (pv 0) pa_nil)) pe_int (nomark _))
      (pe_one (pe_cmpR op_lt (pe_ix ix_any2 (pv 0) pe_int (fun _ _ => rfl)) (pe_glob (v := .int 3) (by rfl) gM ⟨_, rfl⟩) (nomark _)))))), ?_⟩
    have hrow : Evl.SpV (spRow K) [x, .int 0, .non] H (.bl (rowB o)) := fun H1 e Q q E => ⟨x, .int 0, .non, _, rfl, (hx.ex e).row, trivial, trivial, q⟩
    have e1 : Evl.Ev (tCall (spRow K) [] E0 (tCons (tVar 0) (tCons (tC (.int 0)) (tCons (tC .non) tNil)))) (start ["value"] [x]) H (.bl (rowB o)) := Evl.ev_call (Evl.ea_cons (Evl.ev_var rfl) (Evl.ea_cons Evl.ev_c (Evl.ea_cons Evl.ev_c Evl.ea_nil))) hrow
    cases ho : o with
    | none =>
      rw [ho] at e1
      refine Evl.s_ret (v := .bl (pd (SeatP none))) (Evl.ev_is (Evl.ev_andV (a := false) (b := false) e1 fun z => nomatch z) (congrArg V.bl (pd_false fun ⟨_, _, _, z, _⟩ => nomatch z).symm)) (ho ▸ q)
    | some xs =>
      rw [ho] at e1 hx
      obtain ⟨a, rfl, hs, hl, hi⟩ := hx.sq
      refine Evl.s_ret (v := .bl (pd (SeatP (some xs)))) (Evl.ev_is (Evl.ev_andV (b := decide (xs.length = 3) && pd (SeatP (some xs))) e1 fun hr1 => Evl.ev_andV (a := decide (xs.length = 3)) (Evl.ev_is (Evl.ev_op (ev_lenB (Evl.ev_var rfl) hs) Evl.ev_c (Evl.rv_eq rfl)) (congrArg V.bl (decide_eq_decide.mpr ⟨fun z => by have := V.int.inj z; omega, fun z => by rw [z]; rfl⟩))) fun h3 => ?_) ?_) (ho ▸ q)
      · obtain ⟨p, l, n, e⟩ := row3 hr1 (of_decide_eq_true h3)
        obtain rfl := Option.some.inj e
        refine Evl.ev_is (Evl.ev_op (ev_ixB (j := 2) (Evl.ev_var rfl) hs rfl) Evl.ev_c Evl.rv_I0) (congrArg V.bl ?_)
        refine (pd_is (Iff.intro ?_ fun h' => ⟨p, l, n, rfl, ?_⟩)).symm
        · rintro ⟨p', l', n', e', h'⟩
          obtain ⟨_, _, rfl⟩ := seat_eq e'
          exact decide_eq_true (by omega)
        · have := of_decide_eq_true h'
          omega
      · congr 1
        cases hb : pd (SeatP (some xs)) with
        | false => rw [Bool.and_false, Bool.and_false]
        | true =>
          obtain ⟨p, l, n, e, _⟩ := pd_of hb
          obtain rfl := Option.some.inj e
          have : rowB (some [V.int (p : Int), .int (l : Int), .int (n : Int)]) = true := by
            simp only [rowB, List.all_cons, List.all_nil, wi0', Bool.and_true]
          rw [this]
          rfl
theorem ok_small {f fR : Addr} {fd fdR : FuncData} {k : Nat} (F : Fun K "_is_small_seat" "_is_small_seat" sSmallSeat f fd)
    (FR : Fun K "is_seat" "is_seat" sIsSeat fR fdR) (GR : FnOk P w K mg base CX0 k fR fdR ["value"] (spSeat K SeatP)) (bR : Binds K fdR ["value"] []) (gR : mg "is_seat" = some (.ref fR))
    {tM : Tok} (gM : mg "MOST_NUMBER" = some (.int 999 tM)) : FnOk P w K mg base CX0 (k + 1) f fd ["value"] (spSeat K SmallP) := by
  refine F.ok scSmall (fun vs H Q E h => ?_) (fun cdv A outer s H vs Q E hr h => ?_)
  · obtain ⟨x, o, rfl, _⟩ := h
    rfl
  · obtain ⟨x, o, rfl, hx, q⟩ := h
    refine ⟨_, pss_one (ps_ret (pe_and (pe_call GR hr (by rfl) gR FR.kp bR .nil pass0 (pa_cons (pv 0) pa_nil)) (pe_and (pe_cmpR op_le (pe_ix ix_any2 (pv 0) pe_int (fun _ _ => rfl)) (pe_glob (v := .int 999) (by rfl) gM ⟨_, rfl⟩) (nomark _))
      (pe_one (pe_cmpR op_le (pe_ix ix_any2 (pv 0) pe_int (fun _ _ => rfl)) (pe_glob (v := .int 999) (by rfl) gM ⟨_, rfl⟩) (nomark _)))))), ?_⟩
    have e1 : Evl.Ev (tCall (spSeat K SeatP) [] E0 (tCons (tVar 0) tNil)) (start ["value"] [x]) H (.bl (pd (SeatP o))) := Evl.ev_call (Evl.ea_cons (Evl.ev_var rfl) Evl.ea_nil) (spv_seat hx)
    by_cases hs : SeatP o
    · obtain ⟨p, l, n, rfl, hn⟩ := id hs
      obtain ⟨a, rfl, hq, _, _⟩ := hx.sq
      refine Evl.s_ret (v := .bl (pd (SmallP (seatIs p l n)))) (Evl.ev_is (Evl.ev_andV (b := decide (p ≤ 999) && decide (l ≤ 999)) e1 fun _ => Evl.ev_andV (a := decide (p ≤ 999)) (b := decide (l ≤ 999)) (Evl.ev_is (Evl.ev_op (ev_ixB (j := 0) (Evl.ev_var rfl) hq rfl) Evl.ev_c Evl.rv_I0) (congrArg V.bl (decide_eq_decide.mpr ⟨fun z => by omega, fun z => by omega⟩))) fun _ => Evl.ev_is (Evl.ev_op (ev_ixB (j := 1) (Evl.ev_var rfl) hq rfl) Evl.ev_c Evl.rv_I0) (congrArg V.bl (decide_eq_decide.mpr ⟨fun z => by omega, fun z => by omega⟩))) (congrArg V.bl ?_)) q
      rw [pd_true hs, Bool.true_and, ← Bool.decide_and]
      refine (pd_is (Iff.intro ?_ fun h => ?_)).symm
      · rintro ⟨p', l', n', e', _, h1, h2⟩
        obtain ⟨rfl, rfl, rfl⟩ := seat_eq e'
        exact decide_eq_true ⟨h1, h2⟩
      · obtain ⟨h1, h2⟩ := of_decide_eq_true h
        exact ⟨p, l, n, rfl, hn, h1, h2⟩
    · rw [pd_false hs] at e1
      refine Evl.s_ret (v := .bl (pd (SmallP o))) (Evl.ev_is (Evl.ev_andV (a := false) (b := false) e1 fun z => nomatch z) (congrArg V.bl (pd_false fun ⟨p, l, n, e, h, _⟩ => hs ⟨p, l, n, e, h⟩).symm)) q
theorem ok_signOf {f : Addr} {fd : FuncData} {k : Nat} (F : Fun K "_sign_of" "_sign_of" sSignOf f fd) {tM : Tok} (gM : mg "LANES" = some (.int 3 tM)) : FnOk P w K mg base CX0 (k + 1) f fd ["seat", "other"] (spSignOf K) := by
  refine F.ok scSignOf (fun vs H Q E h => ?_) (fun cdv A outer s H vs Q E hr h => ?_)
  · obtain ⟨S, S2, p, l, n, p2, l2, n2, rfl, _⟩ := h
    rfl
  · obtain ⟨S, S2, p, l, n, p2, l2, n2, rfl, hS, hS2, h1, h2, q⟩ := h
    refine ⟨_, pss_one (ps_ret (pe_op op_add (pe_op op_mul (pe_glob (v := .int 3) (by rfl) gM ⟨_, rfl⟩) (pe_op op_add (pe_op op_sub (pe_ix ix_any2 (pv 1) pe_int (fun _ _ => rfl)) (pe_ix ix_any2 (pv 0) pe_int (fun _ _ => rfl))) pe_int)) (pe_ix ix_any2 (pv 1) pe_int (fun _ _ => rfl)))), ?_⟩
    exact Evl.s_ret (Evl.ev_op (Evl.ev_op Evl.ev_c (Evl.ev_op (Evl.ev_op (ev_ixB (j := 1) (Evl.ev_var rfl) hS2 rfl) (ev_ixB (j := 1) (Evl.ev_var rfl) hS rfl) Evl.rv_I0) Evl.ev_c Evl.rv_I0) (Evl.rv_I (.inl ⟨by omega, by omega⟩))) (ev_ixB (j := 2) (Evl.ev_var rfl) hS2 rfl) Evl.rv_I0) q
end
end P60
end S_Kf
section S_Kg
namespace P60
open PySem PySem.Spec PyProof.Rows L2 Tl Hk
theorem sS_len (b : List Bool) : (sS b).length = b.length := by
  unfold sS Str.length
  simp
theorem sS_at {b : List Bool} {i : Nat} (h : i < b.length) : atI (sS b).cps.toList (i : Int) = some (sg (b.getD i false)) := by
  refine atI_nat ?_
  unfold sS
  show (b.map sg)[i]? = _
  rw [List.getElem?_map, List.getD_eq_getElem?_getD, List.getElem?_eq_getElem h]
  rfl
theorem sS_cut3 {b : List Bool} (h : b.length = 9) : cutS (sS b) none (some 3) = sS (b.take 3) := by
  unfold cutS
  rw [show (3 : Int) = ((3 : Nat) : Int) from rfl, HT.sIx_none, HT.sIx_nat, sS_len, h]
  unfold sS
  rw [List.map_take]
  rfl
theorem one3 : ∀ b0 b1 b2 : Bool, (!(Builtin.Str.occurrences (sS [b0, b1, b2]) ("1" : Str) 0 (sS [b0, b1, b2]).length 1).isEmpty) = (b0 || (b1 || b2)) := by decide +kernel
def in01 (c : Nat) : Bool := inV (.str ⟨#[c]⟩) [V.str "0", V.str "1"]
theorem in01_iff {c : Nat} : in01 c = true ↔ c = 48 ∨ c = 49 := by
  have h : in01 c = (decide ((⟨#[48]⟩ : Str) = ⟨#[c]⟩) || (decide ((⟨#[49]⟩ : Str) = ⟨#[c]⟩) || false)) := rfl
  have e : ∀ k : Nat, ((⟨#[k]⟩ : Str) = ⟨#[c]⟩) ↔ c = k := fun k => ⟨fun y => by
    have h2 : (#[k] : Array Nat) = #[c] := congrArg Str.cps y
    have h3 : [k] = [c] := congrArg Array.toList h2
    exact (List.cons.inj h3).1.symm, fun y => by rw [y]⟩
  rw [h, Bool.or_false, Bool.or_eq_true_iff, decide_eq_true_iff, decide_eq_true_iff, e, e]
theorem of_in01 {z : Str} (h : z.cps.toList.all in01 = true) : ∃ b : List Bool, z = sS b ∧ b.length = z.length := by
  refine ⟨z.cps.toList.map fun c => decide (c = 49), ?_, by rw [List.length_map]; rfl⟩
  refine TL.ext_tl ?_
  show z.cps.toList = (z.cps.toList.map fun c => decide (c = 49)).map sg
  rw [List.map_map]
  refine (List.map_id _).symm.trans (List.map_congr_left fun c hc => ?_)
  rcases in01_iff.mp (List.all_eq_true.mp h c hc) with rfl | rfl <;> rfl
theorem sS_in01 (b : List Bool) : (sS b).cps.toList.all in01 = true := by
  rw [List.all_eq_true]
  intro c hc
  have hc : c ∈ b.map sg := hc
  obtain ⟨x, _, rfl⟩ := List.mem_map.mp hc
  refine in01_iff.mpr ?_
  cases x
  · exact .inl rfl
  · exact .inr rfl
theorem sS_inj {a b : List Bool} (h : sS a = sS b) : a = b := by
  have h1 : a.map sg = b.map sg := congrArg (fun s : Str => s.cps.toList) h
  have hi : ∀ {x y : Bool}, sg x = sg y → x = y := fun {x y} h => by cases x <;> cases y <;> first | rfl | (exact absurd h (by decide))
  clear h
  induction a generalizing b with
  | nil => cases b with
    | nil => rfl
    | cons y s => cases h1
  | cons x r ih => cases b with
    | nil => cases h1
    | cons y s =>
      rw [List.map_cons, List.map_cons] at h1
      obtain ⟨e1, e2⟩ := List.cons.inj h1
      rw [hi e1, ih e2]
def isStrV : V → Bool
  | .str _ => true
  | _ => false
theorem rc_str {K : PySem.W.Frag} {H : Hp} {x : V} {n : String} (h : Ty7 K H x n) : Evl.RC (rIsi K) [x, .ty "str"] H (.bl (isStrV x)) := fun H1 e Q q => by
  have hk : PySem.W.kitOne K (.type n) (.type "str") = some (isStrV x) := by
    refine kit_ty ?_
    cases h <;> first | (show _ = some true; decide +kernel) | (show _ = some false; decide +kernel)
  exact ⟨x, .ty "str", .type n, .type "str", isStrV x, rfl, .ty _, (h.ex e).tyx, hk, q H1 (Evl.Ex.refl H1)⟩
abbrev teIn (K : PySem.W.Frag) : TE := tOp (rIn K false) (tVar 4) (tTup (tCons (tC (.str "0")) (tCons (tC (.str "1")) tNil)))
theorem ev_in01 {K : PySem.W.Frag} {σ : L2.St} {H : Hp} {c : Nat} (h : σ[4]? = some (some (.str ⟨#[c]⟩))) : Evl.Ev (teIn K) σ H (.bl (in01 c)) := fun H1 e Q q =>
  ⟨_, h, by show 2 ≤ sizeLine; decide, fun p hp => ⟨p, [.str "0", .str "1"], rfl, .inr (Evl.st_of upd_same), rfl, rfl, q _ (Evl.Ex.new hp)⟩⟩
theorem scNearPiece : FnScope ["seat", "value", "piece", "signs", "sign"] ["seat", "value"] (defScope sNearPiece) := ⟨rfl, rfl, rfl, by decide +kernel, rfl, by decide +kernel, by decide +kernel⟩
def PieceV (p l n : Nat) (o : Option (List V)) : Prop := ∃ q : Nat × List Bool, o = some [.int (q.1 : Int), .str (sS q.2)] ∧ PieceP p l n q
def ShortS (o : Option (List V)) : Prop := ∀ xs, o = some xs → ∀ z, V.str z ∈ xs → z.length ≤ 1000
abbrev seatL (p l n : Nat) : List V := [.int (p : Int), .int (l : Int), .int (n : Int)]
def spNearPiece (K : PySem.W.Frag) : Sp := fun vs H Q _ => ∃ (S : Addr) (x : V) (p l n : Nat) (o : Option (List V)), vs = [.ref S, x] ∧ SqS K H S (seatL p l n) ∧ l ≤ 999 ∧ n < 3 ∧ ValR K H x o ∧ ShortS o ∧ ∀ H1, Evl.Ex H H1 → Q (.bl (pd (PieceV p l n o))) H1
theorem spv_nearPiece {K : PySem.W.Frag} {H : Hp} {S : Addr} {x : V} {p l n : Nat} {o : Option (List V)} (h : SqS K H S (seatL p l n)) (hl : l ≤ 999) (hn : n < 3) (hx : ValR K H x o) (hs : ShortS o) : Evl.SpV (spNearPiece K) [.ref S, x] H (.bl (pd (PieceV p l n o))) := fun H1 e Q q E => ⟨S, x, p, l, n, o, rfl, h.ex e, hl, hn, hx.ex e, hs, q⟩
theorem wi999 {v : V} (h : wi v (.int 0) (.int 999) = true) : ∃ n : Nat, v = .int (n : Int) ∧ n ≤ 999 := by
  cases v with
  | int i =>
    have h : (decide ((0 : Int) ≤ i) && decide (i ≤ 999)) = true := h
    have h1 := of_decide_eq_true (Bool.and_eq_true_iff.mp h).1
    have h2 := of_decide_eq_true (Bool.and_eq_true_iff.mp h).2
    exact ⟨i.toNat, by rw [Int.toNat_of_nonneg h1], by omega⟩
  | _ => cases h
theorem wi999' {n : Nat} (h : n ≤ 999) : wi (.int (n : Int)) (.int 0) (.int 999) = true := by
  show (decide ((0 : Int) ≤ (n : Int)) && decide ((n : Int) ≤ 999)) = true
  rw [decide_eq_true (by omega), decide_eq_true (by omega)]
  rfl
def len9 : V → Bool
  | .str z => decide (z.length = 9)
  | _ => false
section
variable {P : Program} {w : World} {K : PySem.W.Frag} {mg : Str → Option Value} {base : Heap}
set_option maxHeartbeats 1000000 in
theorem ok_nearPiece {f fL fW fS : Addr} {fd fdL fdW fdS : FuncData} {k : Nat} (F : Fun K "_is_near_piece" "_is_near_piece" sNearPiece f fd)
    (FL : Fun K "is_list" "is_list" sList fL fdL) (GL : FnOk P w K mg base CX0 k fL fdL ["value"] (spList K)) (bL : Binds K fdL ["value"] []) (gL : mg "is_list" = some (.ref fL))
    (FW : Fun K "is_within" "is_within" sWithin fW fdW) (GW : FnOk P w K mg base CX0 k fW fdW ["value", "least", "most"] (spWithin K)) (bW : Binds K fdW ["value", "least", "most"] []) (gW : mg "is_within" = some (.ref fW))
    (FS : Fun K "_sign_of" "_sign_of" sSignOf fS fdS) (GS : FnOk P w K mg base CX0 k fS fdS ["seat", "other"] (spSignOf K)) (bS : Binds K fdS ["seat", "other"] []) (gS : mg "_sign_of" = some (.ref fS))
    {t1 t2 t3 : Tok} (g1 : mg "MOST_NUMBER" = some (.int 999 t1)) (g2 : mg "MANY_SIGNS" = some (.int 9 t2)) (g3 : mg "LANES" = some (.int 3 t3)) (mi : mg "isinstance" = none) (mstr : mg "str" = none) (mlen : mg "len" = none) (mall : mg "all" = none) :
    FnOk P w K mg base CX0 (k + 1) f fd ["seat", "value"] (spNearPiece K) := by
  refine F.ok scNearPiece (fun vs H Q E h => ?_) (fun cdv A outer s H vs Q E hr h => ?_)
  · obtain ⟨S, x, p, l, n, o, rfl, _⟩ := h
    rfl
  · obtain ⟨S, x, p, l, n, o, rfl, hS, hl, hn, hx, hsh, q⟩ := h
    have nd := scNearPiece.nd
    refine ⟨_, pss_cons (ps_if (PW.pt (pw_or (pt_not (pt_val (pe_call GL hr (by rfl) gL FL.kp bL .nil pass0 (pa_cons (pv 1) pa_nil)))) (pw_or1 (pt_cmpR op_ne (pe_callB call_len_seq (by rfl) mlen PySem.boot_len (pa_cons (pv 1) pa_nil)) pe_int (nomark _))))) (pss_one (ps_ret pe_bl)) pss_nil)
      (pss_cons (ps_asg (pv 1) (pg_ei (by rfl) (pgs_cons (pg_name (i := 2) nd rfl (Or.inl rfl)) (pgs_cons (pg_name (i := 3) nd rfl (Or.inl rfl)) pgs_nil))))
      (pss_cons (ps_if (PW.pt (pw_or (pt_not (pt_val (pe_call GW hr (by rfl) gW FW.kp bW .nil pass0 (pa_cons (pv 2) (pa_cons pe_int (pa_cons (pe_glob (v := .int 999) (by rfl) g1 ⟨_, rfl⟩) pa_nil)))))) (pw_or (pt_not (pt_val (pe_callB call_isi (by rfl) mi (by decide +kernel) (pa_cons (pv 3) (pa_cons (pe_bltn (v := .ty "str") (by rfl) mstr (by decide +kernel) rfl) pa_nil)))))
          (pw_or1 (pt_cmpR op_ne (pe_callB call_len_str (by rfl) mlen PySem.boot_len (pa_cons (pv 3) pa_nil)) (pe_glob (v := .int 9) (by rfl) g2 ⟨_, rfl⟩) (nomark _)))))) (pss_one (ps_ret pe_bl)) pss_nil)
      (pss_cons (ps_if (pt_not (pt_val (pe_callB (cr_all rfl) (by rfl) mall (by decide +kernel) (pa_cons (pe_lc (own := [("sign", 4)]) (g := gName 4) (tt := tYes) (te := teIn K) rfl nd (pi_str (pv 3)) (blkOk_by (N := ["seat", "value", "piece", "signs", "sign"]) (sc := defScope sNearPiece) (by decide +kernel)) (fun _ _ _ _ _ => pg_name (i := 4) nd rfl (Or.inl rfl)) (fun _ _ _ _ _ => pts_nil)
          (fun _ _ _ _ _ => pe_cmpR op_in_seq (pv 4) (pe_tup (pa_cons pe_str (pa_cons pe_str pa_nil))) (by with_unfolding_all rfl))) pa_nil)))) (pss_one (ps_ret pe_bl)) pss_nil)
      (pss_cons (ps_if (PW.pt (pw_and (pt_cmpR op_eq (pe_ix ix_any2 (pv 0) pe_int (fun _ _ => rfl)) pe_int (nomark _)) (pw_and1 (pt_cmpR op_in_str pe_str (pe_slice sl_str (pv 3) po_none (po_some (pe_glob (v := .int 3) (by rfl) g3 ⟨_, rfl⟩))) (by with_unfolding_all rfl))))) (pss_one (ps_ret pe_bl)) pss_nil)
      (pss_one (ps_ret (pe_or (pe_cmpR op_ne (pv 2) (pe_ix ix_any2 (pv 0) pe_int (fun _ _ => rfl)) (nomark _)) (pe_one (pe_cmpR op_eq (pe_ix ix_str (pv 3) (pe_call GS hr (by rfl) gS FS.kp bS .nil pass0 (pa_cons (pv 0) (pa_cons (pv 0) pa_nil))) (fun _ _ => rfl)) pe_str (nomark _)))))))))), ?_⟩
    have isl : Evl.Ev (tCall (spList K) [] E0 (tCons (tVar 1) tNil)) (start ["seat", "value", "piece", "signs", "sign"] [.ref S, x]) H (.bl o.isSome) := Evl.ev_call (Evl.ea_cons (Evl.ev_var rfl) Evl.ea_nil) hx.isList
    have bad : ∀ {σ : L2.St} {G : Hp}, ¬PieceV p l n o → Evl.Ex H G → tRet (tC (.bl false)) { nx := fun _ H' => Q .non H', rt := Q } σ G := fun h e => by
      have := q _ e
      rw [pd_false h] at this
      exact this
    have bad2 : ∀ {D : Ends} {σ : L2.St} {G : Hp}, D.rt = Q → ¬PieceV p l n o → Evl.Ex H G → tRet (tC (.bl false)) D σ G := fun {D σ G} hD h e => by
      have := q _ e
      rw [pd_false h] at this
      show D.rt _ G
      rw [hD]
      exact this
    cases ho : o with
    | none =>
      rw [ho] at isl
      refine Evl.q_when (b := true) (Evl.et_or (a := true) (b := false) (Evl.et_is (Evl.et_not (Evl.et_B isl)) rfl) fun z => nomatch z) (fun _ H1 e1 => ?_) (fun z => nomatch z)
      exact bad2 rfl (by rw [ho]; rintro ⟨_, z, _⟩; cases z) e1
    | some xs =>
      rw [ho] at isl hx
      obtain ⟨R, rfl, hR, hl4, hi⟩ := hx.sq
      refine Evl.q_when (b := !decide (xs.length = 2)) (Evl.et_is (Evl.et_or (a := false) (Evl.et_is (Evl.et_not (Evl.et_B isl)) rfl) fun _ => Evl.et_is (Evl.et_test (Evl.ev_op (ev_lenB (Evl.ev_var rfl) hR) Evl.ev_c (Evl.rv_ne rfl))) (congrArg (!·) (decide_eq_decide.mpr ⟨fun z => by have := V.int.inj z; omega, fun z => by rw [z]; rfl⟩))) (Bool.false_or _)) (fun hb H1 e1 => ?_) fun hb H1 e1 => ?_
      · refine bad2 rfl (fun ⟨q', z, _⟩ => ?_) e1
        rw [ho] at z
        rw [Option.some.inj z] at hb
        cases hb
      have hb : xs.length = 2 := by
        rw [Bool.not_eq_false'] at hb
        exact of_decide_eq_true hb
      obtain ⟨a, s, rfl⟩ : ∃ a s, xs = [a, s] := by
        match xs, hb with
        | [a, s], _ => exact ⟨a, s, rfl⟩
      obtain ⟨na, ta⟩ := hi a (by simp)
      obtain ⟨ns, ts⟩ := hi s (by simp)
      refine ⟨.ref R, rfl, gEi_of (hR.ex e1) rfl ⟨_, _, rfl, _, _, rfl, rfl, ?_⟩⟩
      dsimp only [gName]
      have hz : ∀ z, s = .str z → z.length ≤ 1000 := fun z e => hsh _ ho z (by rw [e]; simp)
      refine Evl.q_when (b := !wi a (.int 0) (.int 999) || (!isStrV s || !len9 s)) (Evl.et_or (Evl.et_not (Evl.et_B (Evl.ev_call (Evl.ea_cons (Evl.ev_var rfl) (Evl.ea_cons Evl.ev_c (Evl.ea_cons Evl.ev_c Evl.ea_nil))) (spv_within (ta.ex e1) trivial trivial)))) fun _ => Evl.et_or (Evl.et_not (Evl.et_B (Evl.ev_cb (Evl.ea_cons (Evl.ev_var rfl) (Evl.ea_cons Evl.ev_c Evl.ea_nil)) (rc_str (ts.ex e1))))) fun hst => ?_) (fun hb2 H2 e2 => ?_) fun hb2 H2 e2 => ?_
      · obtain ⟨z, rfl⟩ : ∃ z, s = .str z := by
          cases s with
          | str z => exact ⟨z, rfl⟩
          | _ => cases hst
        have hz := hz z rfl
        exact Evl.et_is (Evl.et_test (Evl.ev_op (x := .int (z.length : Int)) (fun H1 e Q' q' => ⟨.str z, rfl, z, rfl, by rw [sizeLine_eq]; omega, q' H1 (Evl.Ex.refl _)⟩) Evl.ev_c (Evl.rv_ne rfl))) (congrArg (!·) (decide_eq_decide.mpr ⟨fun y => by have := V.int.inj y; omega, fun y => by rw [y]; rfl⟩))
      · refine bad2 rfl (fun ⟨q', z, h1, h2, _⟩ => ?_) (e1.trans e2)
        rw [ho] at z
        have zz := Option.some.inj z
        obtain ⟨y1, zz⟩ := List.cons.inj zz
        obtain ⟨y2, _⟩ := List.cons.inj zz
        rw [y1, y2, wi999' h1] at hb2
        have : len9 (.str (sS q'.2)) = true := decide_eq_true (by rw [sS_len]; exact h2)
        rw [this] at hb2
        cases hb2
      rw [Bool.or_eq_false_iff, Bool.or_eq_false_iff, Bool.not_eq_false', Bool.not_eq_false', Bool.not_eq_false'] at hb2
      obtain ⟨hb3, hb4, hb5⟩ := hb2
      obtain ⟨z, rfl⟩ : ∃ z, s = .str z := by
        cases s with
        | str z => exact ⟨z, rfl⟩
        | _ => cases hb4
      obtain ⟨kk, rfl, hk⟩ := wi999 hb3
      have hz9 : z.length = 9 := of_decide_eq_true hb5
      have hzs : z.cps.size = 9 := hz9
      have sz : z.length ≤ sizeLine := by rw [hz9, sizeLine_eq]; decide
      refine Evl.q_when (b := !(z.cps.toList.all in01)) (Evl.et_not (Evl.et_B (Evl.ev_is (ev_allN (bs := (List.range z.cps.size).map fun i => in01 (z.cps.getD i 0)) ?_) ?_))) (fun hb6 H3 e3 => ?_) fun hb6 H3 e3 => ?_
      · have hh := el_lcI (te := teIn K) (t := tYes) (σ := [some (.ref S), some (.ref R), some (.int (kk : Int)), some (.str z), none]) (H := H2) (vs := [4]) (fun _ => true) (fun i => V.bl (in01 (z.cps.getD i 0))) (ei_str (z := z) (Evl.ev_var (i := 3) rfl)) (aims_str (j := 4)) (fun _ => rfl) (by omega) (fun _ _ _ _ => et_yes) fun i H4 e4 hi _ => ev_in01 rfl
        have er : Evl.given z.cps.size (fun _ => true) (fun i => V.bl (in01 (z.cps.getD i 0))) = ((List.range z.cps.size).map fun i => in01 (z.cps.getD i 0)).map V.bl := by
          unfold Evl.given
          rw [List.filter_eq_self.mpr (fun _ _ => rfl), List.map_map]
          rfl
        rw [er] at hh
        exact hh
      · congr 1
        rw [List.all_map]
        have e : z.cps.toList = (List.range z.cps.size).map fun i => z.cps.getD i 0 := by
          refine List.ext_getElem (by simp) fun i h1 h2 => ?_
          have hi : i < z.cps.size := by simpa using h1
          rw [List.getElem_map, List.getElem_range, Array.getD_eq_getD_getElem?, Array.getElem?_eq_getElem hi]
          simp
        rw [e, List.all_map]
        rfl
      · refine bad2 rfl (fun ⟨q', z', h1, h2, _⟩ => ?_) ((e1.trans e2).trans e3)
        rw [ho] at z'
        obtain ⟨_, z'⟩ := List.cons.inj (Option.some.inj z')
        obtain ⟨z', _⟩ := List.cons.inj z'
        rw [V.str.inj z', sS_in01] at hb6
        cases hb6
      rw [Bool.not_eq_false'] at hb6
      obtain ⟨b, rfl, hbl⟩ := of_in01 hb6
      rw [hz9] at hbl
      have e13 := (e1.trans e2).trans e3
      have pv : PieceV p l n (some [.int (kk : Int), .str (sS b)]) ↔ PieceP p l n (kk, b) := ⟨fun ⟨q', z', h⟩ => by
        obtain ⟨y1, z'⟩ := List.cons.inj (Option.some.inj z')
        obtain ⟨z', _⟩ := List.cons.inj z'
        have y2 := sS_inj (V.str.inj z')
        have y1 := V.int.inj y1
        have y1 : kk = q'.1 := by omega
        rw [y1, y2]
        exact h, fun h => ⟨(kk, b), rfl, h⟩⟩
      refine Evl.q_when (b := decide (l = 0) && !decide (b.take 3 = f3)) (Evl.et_and (Evl.et_is (Evl.et_test (Evl.ev_op (ev_ixB (j := 1) (Evl.ev_var rfl) (hS.ex e13) rfl) Evl.ev_c (Evl.rv_eq rfl))) (decide_eq_decide.mpr ⟨fun y => by have := V.int.inj y; omega, fun y => by rw [y]; rfl⟩)) fun _ => ?_) (fun hb7 H4 e4 => ?_) fun hb7 H4 e4 => ?_
      · obtain ⟨b0, b1, b2, r, rfl⟩ : ∃ b0 b1 b2 r, b = b0 :: b1 :: b2 :: r := by
          match b, hbl with
          | b0 :: b1 :: b2 :: r, _ => exact ⟨_, _, _, _, rfl⟩
        have e3' : (!decide ((b0 :: b1 :: b2 :: r).take 3 = f3)) = (b0 || (b1 || b2)) := by
          show (!decide ([b0, b1, b2] = f3)) = _
          cases b0 <;> cases b1 <;> cases b2 <;> rfl
        rw [e3']
        refine Evl.et_test (te := tOp _ _ _) (fun H5 e5 Q' q' => ⟨V.str _, rfl, 3, rfl, _, rfl, sz, "1", _, rfl, rfl, ?_⟩)
        rw [sS_cut3 hbl]
        show Q' (.bl (!(Builtin.Str.occurrences (sS [b0, b1, b2]) ("1" : Str) 0 (sS [b0, b1, b2]).length 1).isEmpty)) H5
        rw [one3]
        exact q' H5 (Evl.Ex.refl _)
      · refine bad2 rfl (fun hp => ?_) (e13.trans e4)
        rw [ho] at hp
        obtain ⟨_, _, h3, _⟩ := pv.mp hp
        obtain ⟨y1, y2⟩ := Bool.and_eq_true_iff.mp hb7
        have := h3 (of_decide_eq_true y1)
        rw [decide_eq_true this] at y2
        cases y2
      have hS4 := (hS.ex e13).ex e4
      refine Evl.s_ret (v := .bl (pd (PieceV p l n (some [.int (kk : Int), .str (sS b)])))) (Evl.ev_is (Evl.ev_orV (a := !decide (kk = p)) (b := !b.getD (3 + n) false) (Evl.ev_is (Evl.ev_op (Evl.ev_var rfl) (ev_ixB (j := 0) (Evl.ev_var rfl) hS4 rfl) (Evl.rv_ne rfl)) (congrArg V.bl (congrArg (!·) (decide_eq_decide.mpr ⟨fun y => by have := V.int.inj y; omega, fun y => by rw [y]⟩)))) fun _ => Evl.ev_is (Evl.ev_op (x := .str ⟨#[sg (b.getD (3 + n) false)]⟩) (Evl.ev_op (Evl.ev_var rfl) (Evl.ev_call (Evl.ea_cons (Evl.ev_var rfl) (Evl.ea_cons (Evl.ev_var rfl) Evl.ea_nil)) (spv_signOf hS4 hS4 hl hl)) fun H5 e5 Q' q' => ⟨sS b, _, sg (b.getD (3 + n) false), rfl, rfl, sz, ?_, q' H5 (Evl.Ex.refl _)⟩) Evl.ev_c (Evl.rv_eq rfl)) ?_) (congrArg V.bl ?_)) (ho ▸ fun H5 e5 => q H5 ((e13.trans e4).trans e5))
      · rw [show 3 * ((l : Int) - (l : Int) + 1) + (n : Int) = ((3 + n : Nat) : Int) by omega]
        exact sS_at (by omega)
      · cases b.getD (3 + n) false <;> decide
      · refine (pd_is (pv.trans ?_)).symm
        rw [Bool.or_eq_true_iff, Bool.not_eq_true', Bool.not_eq_true', decide_eq_false_iff_not]
        rw [Bool.and_eq_false_iff] at hb7
        constructor
        · rintro ⟨_, _, _, h4⟩
          by_cases y : kk = p
          · exact .inr (h4 y)
          · exact .inl y
        · intro h
          refine ⟨hk, hbl, fun y => ?_, fun y => h.resolve_left fun z => z y⟩
          rcases hb7 with u | u
          · exact absurd y (of_decide_eq_false u)
          · rw [Bool.not_eq_false'] at u
            exact of_decide_eq_true u
end
end P60
end S_Kg
section S_Wq
namespace Hk
open PySem PySem.Spec PyProof.Rows L2 Tl
theorem asc_eq : ∀ {xs ys : List Int}, xs.Pairwise (· < ·) → ys.Pairwise (· < ·) → (∀ k, k ∈ xs ↔ k ∈ ys) → xs = ys
  | [], [], _, _, _ => rfl
  | [], y :: r, _, _, h => by have := (h y).mpr List.mem_cons_self; cases this
  | x :: r, [], _, _, h => by have := (h x).mp List.mem_cons_self; cases this
  | x :: r, y :: s, h1, h2, h => by
    obtain ⟨a1, a2⟩ := List.pairwise_cons.mp h1
    obtain ⟨b1, b2⟩ := List.pairwise_cons.mp h2
    have e : x = y := by
      rcases List.mem_cons.mp ((h x).mp List.mem_cons_self) with z | z
      · exact z
      · rcases List.mem_cons.mp ((h y).mpr List.mem_cons_self) with u | u
        · exact u.symm
        · have := a1 y u
          have := b1 x z
          omega
    subst e
    rw [asc_eq a2 b2 fun k => ?_]
    constructor
    · intro hk
      rcases List.mem_cons.mp ((h k).mp (List.mem_cons_of_mem _ hk)) with z | z
      · have := a1 k hk; omega
      · exact z
    · intro hk
      rcases List.mem_cons.mp ((h k).mpr (List.mem_cons_of_mem _ hk)) with z | z
      · have := b1 k hk; omega
      · exact z
theorem in_ints (x : Int) (ns : List Int) : inV (.int x) (ns.map V.int) = decide (x ∈ ns) := by
  unfold inV
  induction ns with
  | nil => rfl
  | cons a r ih =>
    rw [List.map_cons, List.any_cons, ih]
    have e : eqV (.int a) (.int x) = decide (x = a) := by
      show decide (a = x) = decide (x = a)
      exact decide_eq_decide.mpr eq_comm
    rw [e, ← Bool.decide_or]
    exact decide_eq_decide.mpr List.mem_cons.symm
theorem flat_ints (ns : List Int) : (ns.map V.int).all flatV = true := by
  rw [List.all_eq_true]
  intro v hv
  obtain ⟨i, _, rfl⟩ := List.mem_map.mp hv
  rfl
section
open Evl
variable {K : PySem.W.Frag} {σ : L2.St} {H : Hp} {ta tb te : TE}
theorem el_from1 {tl : TO} {a : Addr} {xs : List V} (h : Ev te σ H (.ref a)) (h2 : EvO tl σ H (some (1 : Int))) (hs : SqL K H a xs) : EvL (tSl (rSlL K) te tl tNoPart) σ H (xs.drop 1) := by
  rw [← cutFrom]
  exact el_sl h h2 eo_none hs
theorem el_sortedSet {w : World} {ns : List Int} (h : EvL ta σ H (ns.map V.int)) (hp : ns.Pairwise (· < ·)) (hl : ns.length < 60) : EvL (tCB (rSortedSet w) (tCons (tCB (rSetL K w) (tCons ta tNil)) tNil)) σ H (ns.map V.int) := fun H1 e Q q =>
  h H1 e _ fun l H2 hl' e2 h2 => ⟨l, ns, rfl, sq_of h2, by omega, fun p c hp' hc => ⟨p, _, c, rfl, upd_same, by omega, fun ms r hpw hmem hlen hr => by
    obtain rfl : ms = ns := asc_eq hpw hp fun k => (hmem k).trans decide_eq_true_iff
    exact q r _ (fresh_back (e2.trans (Ex.new hp')) hr) ((e2.trans (Ex.new hp')).trans (Ex.new hr)) upd_same⟩⟩
theorem ev_notIn {x : Int} {ns : List Int} (h : Ev ta σ H (.int x)) (h2 : EvL tb σ H (ns.map V.int)) : Ev (tOp (rIn K true) ta tb) σ H (.bl !decide (x ∈ ns)) := fun H1 e Q q =>
  h H1 e _ fun H2 e2 => h2 H2 (e.trans e2) _ fun p H3 hp e3 h3 => ⟨p, _, rfl, .inl (sq_of h3), rfl, flat_ints ns, by
    show Q (.bl !inV (.int x) (ns.map V.int)) H3
    rw [in_ints]
    exact q H3 (e2.trans e3)⟩
end
section
open Evl
variable {K : PySem.W.Frag} {σ : L2.St} {H : Hp} {ta tb : TE}
/-- a new list of ints is the sorted set of the same -/
theorem ev_eqSS {w : World} {ns : List Int} (h : EvL ta σ H (ns.map V.int)) (h2 : EvL tb σ H (ns.map V.int)) (hl : ns.length < 60) : Ev (tOp (rEqD K) ta (tCB (rSortedSet w) (tCons (tCB (rSetL K w) (tCons tb tNil)) tNil))) σ H (.bl (pd (ns.Pairwise (· < ·)))) := fun H1 e Q q =>
  h H1 e _ fun l1 H2 hl1 e2 hh1 => h2 H2 (e.trans e2) _ fun l H3 hl' e3 hh2 => ⟨l, ns, rfl, sq_of hh2, by omega, fun p c hp' hc => ⟨p, _, c, rfl, upd_same, by omega, fun ms r hpw hmem hlen hr => by
    have e4 : Ex H3 (upd (upd H3 p _) r (.lst (ms.map V.int))) := (Ex.new hp').trans (Ex.new hr)
    refine ⟨.list (zD ns), .list (zD ms), .lst (sq_of (e4 _ _ (e3 _ _ hh1))) (dp_zD ns), .lst (sq_of upd_same) (dp_zD ms), PySem.W.ke_shaped_ints ns, PySem.W.ke_shaped_ints ms, ?_⟩
    rw [eqv_zD]
    have hm : ∀ k, k ∈ ms ↔ k ∈ ns := fun k => (hmem k).trans decide_eq_true_iff
    have hp : decide (ns = ms) = pd (ns.Pairwise (· < ·)) := by
      by_cases z : ns.Pairwise (· < ·)
      · rw [pd_true z, decide_eq_true (asc_eq z hpw fun k => (hm k).symm)]
      · rw [pd_false z, decide_eq_false (fun y : ns = ms => z (by rw [y]; exact hpw))]
    rw [hp]
    exact q _ ((e2.trans e3).trans e4)⟩⟩
end
end Hk
end S_Wq
section S_Kh
namespace P60
open PySem PySem.Spec PyProof.Rows L2 Tl Hk
theorem scNearPieces : FnScope ["seat", "value", "pair", "pieces"] ["seat", "value"] (defScope sNearPieces) := ⟨rfl, rfl, rfl, by decide +kernel, rfl, by decide +kernel, by decide +kernel⟩
def pieceIs (q : Nat × List Bool) : Option (List V) := some [.int (q.1 : Int), .str (sS q.2)]
def NearV (p l n : Nat) (o : Option (List (Option (List V)))) : Prop := ∃ near, o = some (near.map pieceIs) ∧ NearP p l n near
/-- a value, its items, and their items -/
def DV (K : PySem.W.Frag) (H : Hp) (x : V) : Option (List (Option (List V))) → Prop
  | none => ValR K H x none
  | some ds => ∃ xs : List V, ValR K H x (some xs) ∧ xs.length = ds.length ∧ ∀ (i : Nat) (v : V) (d : Option (List V)), xs[i]? = some v → ds[i]? = some d → ValR K H v d ∧ ShortS d
theorem DV.ex {K : PySem.W.Frag} {H H' : Hp} {x : V} {o : Option (List (Option (List V)))} (h : DV K H x o) (e : Evl.Ex H H') : DV K H' x o := by
  cases o with
  | none => exact ValR.ex h e
  | some ds => exact h.imp fun xs ⟨a, b, c⟩ => ⟨a.ex e, b, fun i v d h1 h2 => ⟨(c i v d h1 h2).1.ex e, (c i v d h1 h2).2⟩⟩
def spNearPieces (K : PySem.W.Frag) : Sp := fun vs H Q _ => ∃ (S : Addr) (x : V) (p l n : Nat) (o : Option (List (Option (List V)))), vs = [.ref S, x] ∧ SqS K H S (seatL p l n) ∧ l ≤ 999 ∧ n < 3 ∧ DV K H x o ∧ ∀ H1, Evl.Ex H H1 → Q (.bl (pd (NearV p l n o))) H1
theorem spv_nearPieces {K : PySem.W.Frag} {H : Hp} {S : Addr} {x : V} {p l n : Nat} {o : Option (List (Option (List V)))} (h : SqS K H S (seatL p l n)) (hl : l ≤ 999) (hn : n < 3) (hx : DV K H x o) : Evl.SpV (spNearPieces K) [.ref S, x] H (.bl (pd (NearV p l n o))) := fun H1 e Q q E => ⟨S, x, p, l, n, o, rfl, h.ex e, hl, hn, hx.ex e, q⟩
theorem pieces_of {p l n : Nat} : ∀ {ds : List (Option (List V))}, (ds.all fun d => pd (PieceV p l n d)) = true → ∃ near : List (Nat × List Bool), ds = near.map pieceIs ∧ ∀ q ∈ near, PieceP p l n q
  | [], _ => ⟨[], rfl, fun q hq => nomatch hq⟩
  | d :: r, h => by
    rw [List.all_cons, Bool.and_eq_true_iff] at h
    obtain ⟨q, rfl, hq⟩ := pd_of h.1
    obtain ⟨near, rfl, hn⟩ := pieces_of h.2
    refine ⟨q :: near, rfl, fun x hx => ?_⟩
    rcases List.mem_cons.mp hx with rfl | hx
    · exact hq
    · exact hn x hx
theorem pieceIs_inj {a b : Nat × List Bool} (h : pieceIs a = pieceIs b) : a = b := by
  have h := Option.some.inj h
  obtain ⟨h1, h⟩ := List.cons.inj h
  obtain ⟨h2, _⟩ := List.cons.inj h
  have h1 := V.int.inj h1
  exact Prod.ext (by omega) (sS_inj (V.str.inj h2))
theorem near_inj : ∀ {a b : List (Nat × List Bool)}, a.map pieceIs = b.map pieceIs → a = b
  | [], [], _ => rfl
  | [], _ :: _, h => nomatch h
  | _ :: _, [], h => nomatch h
  | x :: r, y :: s, h => by
    rw [List.map_cons, List.map_cons] at h
    obtain ⟨h1, h2⟩ := List.cons.inj h
    rw [pieceIs_inj h1, near_inj h2]
def pcs (near : List (Nat × List Bool)) : List Int := near.map fun q => (q.1 : Int)
theorem pcs_pw {near : List (Nat × List Bool)} : (pcs near).Pairwise (· < ·) ↔ (near.map (·.1)).Pairwise (· < ·) := by
  unfold pcs
  rw [List.pairwise_map, List.pairwise_map]
  exact ⟨fun h => h.imp fun h => by omega, fun h => h.imp fun h => by omega⟩
theorem pcs_in {near : List (Nat × List Bool)} {p : Nat} : (p : Int) ∈ pcs near ↔ p ∈ near.map (·.1) := by
  unfold pcs
  constructor
  · intro h
    obtain ⟨q, hq, e⟩ := List.mem_map.mp h
    exact List.mem_map.mpr ⟨q, hq, by omega⟩
  · intro h
    obtain ⟨q, hq, e⟩ := List.mem_map.mp h
    exact List.mem_map.mpr ⟨q, hq, by rw [e]⟩
section
variable {P : Program} {w : World} {K : PySem.W.Frag} {mg : Str → Option Value} {base : Heap}
set_option maxHeartbeats 1000000 in
theorem ok_nearPieces {f fL fW fN : Addr} {fd fdL fdW fdN : FuncData} {k : Nat} (F : Fun K "_are_near_pieces" "_are_near_pieces" sNearPieces f fd)
    (FL : Fun K "is_list" "is_list" sList fL fdL) (GL : FnOk P w K mg base CX0 k fL fdL ["value"] (spList K)) (bL : Binds K fdL ["value"] []) (gL : mg "is_list" = some (.ref fL))
    (FW : Fun K "is_within" "is_within" sWithin fW fdW) (GW : FnOk P w K mg base CX0 k fW fdW ["value", "least", "most"] (spWithin K)) (bW : Binds K fdW ["value", "least", "most"] []) (gW : mg "is_within" = some (.ref fW))
    (FN : Fun K "_is_near_piece" "_is_near_piece" sNearPiece fN fdN) (GN : FnOk P w K mg base CX0 k fN fdN ["seat", "value"] (spNearPiece K)) (bN : Binds K fdN ["seat", "value"] []) (gN : mg "_is_near_piece" = some (.ref fN))
    {t1 : Tok} (g1 : mg "MOST_IN_BAG" = some (.int 4 t1)) (mlen : mg "len" = none) (mall : mg "all" = none) (mset : mg "set" = none) (msorted : mg "sorted" = none) :
    FnOk P w K mg base CX0 (k + 1) f fd ["seat", "value"] (spNearPieces K) := by
  refine F.ok scNearPieces (fun vs H Q E h => ?_) (fun cdv A outer s H vs Q E hr h => ?_)
  · obtain ⟨S, x, p, l, n, o, rfl, _⟩ := h
    rfl
  · obtain ⟨S, x, p, l, n, o, rfl, hS, hl, hn, hx, q⟩ := h
    have nd := scNearPieces.nd
    refine ⟨_, pss_cons (ps_if (PW.pt (pw_or (pt_not (pt_val (pe_call GL hr (by rfl) gL FL.kp bL .nil pass0 (pa_cons (pv 1) pa_nil)))) (pw_or1 (pt_not (pt_val (pe_call GW hr (by rfl) gW FW.kp bW .nil pass0 (pa_cons (pe_callB call_len_seq (by rfl) mlen PySem.boot_len (pa_cons (pv 1) pa_nil)) (pa_cons pe_int (pa_cons (pe_glob (v := .int 4) (by rfl) g1 ⟨_, rfl⟩) pa_nil))))))))) (pss_one (ps_ret pe_bl)) pss_nil)
      (pss_cons (ps_if (pt_not (pt_val (pe_callB (cr_all rfl) (by rfl) mall (by decide +kernel) (pa_cons (pe_lc (own := [("pair", 2)]) (g := gName 2) (tt := tYes) (te := tCall (spNearPiece K) [] E0 (tCons (tVar 0) (tCons (tVar 2) tNil))) rfl nd (pi_ei (pv 1)) (blkOk_by (N := ["seat", "value", "pair", "pieces"]) (sc := defScope sNearPieces) (by decide +kernel)) (fun _ _ _ _ _ => pg_name (i := 2) nd rfl (Or.inl rfl)) (fun _ _ _ _ _ => pts_nil)
          (fun _ _ _ _ _ => pe_call GN hr (by rfl) gN FN.kp bN .nil pass0 (pa_cons (pv 0) (pa_cons (pv 2) pa_nil)))) pa_nil)))) (pss_one (ps_ret pe_bl)) pss_nil)
      (pss_cons (ps_setLc (i := 3) (own := [("pair", 2)]) (g := gName 2) (tt := tYes) (te := tOp (rIxB K) (tVar 2) (tC (.int 0))) rfl nd rfl rfl (sw_true rfl rfl rfl (by decide +kernel)) (pi_ei (pv 1)) (blkOk_by (N := ["seat", "value", "pair", "pieces"]) (sc := defScope sNearPieces) (by decide +kernel)) (fun _ _ _ _ _ => pg_name (i := 2) nd rfl (Or.inl rfl)) (fun _ _ _ _ _ => pts_nil)
          (fun _ _ _ _ _ => pe_ix ix_any2 (pv 2) pe_int (fun _ _ => rfl)))
      (pss_one (ps_ret (pe_and (pe_cmpR op_eq (pe_ix ix_list (pv 3) pe_int (fun _ _ => rfl)) (pe_ix ix_any2 (pv 0) pe_int (fun _ _ => rfl)) (nomark _))
        (pe_and (pe_cmpR (op_eqD hr.units) (pe_slice sl_list (pv 3) (po_some pe_int) po_none) (pe_callB (cr_sortedSet rfl) (by rfl) msorted (by decide +kernel) (pa_cons (pe_callTy (cr_setL rfl) (by rfl) mset (by decide +kernel) (pa_cons (pe_slice sl_list (pv 3) (po_some pe_int) po_none) pa_nil)) pa_nil)) (nomark _))
        (pe_one (pe_cmpR op_notIn_seq (pe_ix ix_any2 (pv 0) pe_int (fun _ _ => rfl)) (pe_slice sl_list (pv 3) (po_some pe_int) po_none) (by with_unfolding_all rfl))))))))), ?_⟩
    have bad2 : ∀ {D : Ends} {σ : L2.St} {G : Hp}, D.rt = Q → ¬NearV p l n o → Evl.Ex H G → tRet (tC (.bl false)) D σ G := fun {D σ G} hD h e => by
      have := q _ e
      rw [pd_false h] at this
      show D.rt _ G
      rw [hD]
      exact this
    cases ho : o with
    | none =>
      rw [ho] at hx
      have isl : Evl.Ev (tCall (spList K) [] E0 (tCons (tVar 1) tNil)) (start ["seat", "value", "pair", "pieces"] [.ref S, x]) H (.bl false) := Evl.ev_call (Evl.ea_cons (Evl.ev_var rfl) Evl.ea_nil) (ValR.isList hx)
      refine Evl.q_when (b := true) (Evl.et_or (a := true) (b := false) (Evl.et_is (Evl.et_not (Evl.et_B isl)) rfl) fun z => nomatch z) (fun _ H1 e1 => ?_) (fun z => nomatch z)
      exact bad2 rfl (by rw [ho]; rintro ⟨_, z, _⟩; cases z) e1
    | some ds =>
      rw [ho] at hx
      obtain ⟨xs, hv, hlen, hit⟩ := hx
      have isl : Evl.Ev (tCall (spList K) [] E0 (tCons (tVar 1) tNil)) (start ["seat", "value", "pair", "pieces"] [.ref S, x]) H (.bl true) := Evl.ev_call (Evl.ea_cons (Evl.ev_var rfl) Evl.ea_nil) (ValR.isList hv)
      obtain ⟨R, rfl, hR, hl4, _⟩ := hv.sq
      refine Evl.q_when (b := !(decide (1 ≤ ds.length) && decide (ds.length ≤ 4))) (Evl.et_is (Evl.et_or (a := false) (Evl.et_is (Evl.et_not (Evl.et_B isl)) rfl) fun _ => Evl.et_is (Evl.et_not (Evl.et_B (Evl.ev_is (Evl.ev_call (Evl.ea_cons (ev_lenB (Evl.ev_var rfl) hR) (Evl.ea_cons Evl.ev_c (Evl.ea_cons Evl.ev_c Evl.ea_nil))) (spv_within (.int _) trivial trivial)) (congrArg V.bl (a₂ := decide (1 ≤ ds.length) && decide (ds.length ≤ 4)) ?_)))) rfl) (Bool.false_or _)) (fun hb H1 e1 => ?_) fun hb H1 e1 => ?_
      · show (decide ((1 : Int) ≤ (xs.length : Int)) && decide ((xs.length : Int) ≤ 4)) = _
        rw [hlen]
        congr 1 <;> exact decide_eq_decide.mpr (by omega)
      · refine bad2 rfl (fun ⟨near, z, h⟩ => ?_) e1
        rw [ho] at z
        have z := Option.some.inj z
        have h1 := h.len
        obtain ⟨b, r, e, _⟩ := h.head
        have : ds.length = near.length := by rw [z, List.length_map]
        rw [e, List.length_cons] at this h1
        rw [decide_eq_true (by omega), decide_eq_true (by omega)] at hb
        cases hb
      rw [Bool.not_eq_false', Bool.and_eq_true_iff] at hb
      have hd1 := of_decide_eq_true hb.1
      have hd4 := of_decide_eq_true hb.2
      have xi : ∀ i, i < xs.length → ∃ v d, xs.getD i .non = v ∧ ds.getD i none = d ∧ ValR K H v d ∧ ShortS d := fun i hi => by
        have hi2 : i < ds.length := by omega
        obtain ⟨a1, a2⟩ := hit i _ _ (List.getElem?_eq_getElem hi) (List.getElem?_eq_getElem hi2)
        exact ⟨_, _, by rw [List.getD_eq_getElem?_getD, List.getElem?_eq_getElem hi] <;> rfl, by rw [List.getD_eq_getElem?_getD, List.getElem?_eq_getElem hi2] <;> rfl, a1, a2⟩
      refine Evl.q_when (b := !(ds.all fun d => pd (PieceV p l n d))) (Evl.et_not (Evl.et_B (Evl.ev_is (ev_allN (bs := ds.map fun d => pd (PieceV p l n d)) ?_) (by rw [List.all_map]; rfl)))) (fun hb H2 e2 => ?_) fun hb H2 e2 => ?_
      · rw [List.map_map, ← given_all ds none (V.bl ∘ fun d => pd (PieceV p l n d)), ← hlen]
        refine el_lcI (te := tCall (spNearPiece K) [] E0 (tCons (tVar 0) (tCons (tVar 2) tNil))) (t := tYes) (vs := [2]) (fun _ => true) _ (ei_ei (K := K) (Evl.ev_var (i := 1) rfl) (hR.ex e1)) (aims_at (j := 2)) (fun _ => rfl) (by omega) (fun _ _ _ _ => et_yes) fun i H4 e4 hi _ => ?_
        obtain ⟨v, d, x1, x2, x3, x4⟩ := xi i hi
        rw [x1, x2]
        exact Evl.ev_call (Evl.ea_cons (Evl.ev_var rfl) (Evl.ea_cons (Evl.ev_var rfl) Evl.ea_nil)) (spv_nearPiece ((hS.ex e1).ex e4) hl hn ((x3.ex e1).ex e4) x4)
      · refine bad2 rfl (fun ⟨near, z, h⟩ => ?_) (e1.trans e2)
        rw [ho] at z
        rw [Option.some.inj z] at hb
        have : ((near.map pieceIs).all fun d => pd (PieceV p l n d)) = true := by
          rw [List.all_map, List.all_eq_true]
          exact fun q' hq' => pd_true ⟨q', rfl, h.each q' hq'⟩
        rw [this] at hb
        cases hb
      rw [Bool.not_eq_false'] at hb
      obtain ⟨near, rfl, hnear⟩ := pieces_of hb
      have e12 := e1.trans e2
      have hln : near.length = xs.length := by rw [hlen, List.length_map]
      rw [List.length_map] at hd1 hd4
      refine Evl.q_asgL (xs := (pcs near).map V.int) ?_ fun Pa H3 hPa e3 h3 => ?_
      · unfold pcs
        rw [List.map_map, ← given_all near (0, []) (V.int ∘ fun q : Nat × List Bool => (q.1 : Int)), hln]
        refine el_lcI (te := tOp (rIxB K) (tVar 2) (tC (.int 0))) (t := tYes) (vs := [2]) (fun _ => true) _ (ei_ei (K := K) (Evl.ev_var (i := 1) rfl) (hR.ex e12)) (aims_at (j := 2)) (fun _ => rfl) (by omega) (fun _ _ _ _ => et_yes) fun i H4 e4 hi _ => ?_
        have hi2 : i < near.length := by omega
        obtain ⟨v, d, x1, x2, x3, x4⟩ := xi i hi
        have x2 : d = pieceIs near[i] := by
          rw [← x2, List.getD_eq_getElem?_getD, List.getElem?_map, List.getElem?_eq_getElem hi2]
          rfl
        rw [x2] at x3
        obtain ⟨a, rfl, ha, _, _⟩ := x3.sq
        rw [x1, List.getD_eq_getElem?_getD, List.getElem?_eq_getElem hi2]
        exact ev_ixB (j := 0) (Evl.ev_var rfl) ((ha.ex e12).ex e4) rfl
      have e13 := e12.trans e3
      have hS3 := hS.ex e13
      obtain ⟨q0, r, rfl⟩ : ∃ q0 r, near = q0 :: r := by
        cases near with
        | nil => exact absurd hd1 (by decide)
        | cons q0 r => exact ⟨_, _, rfl⟩
      have lpr : (pcs r).length < 60 := by
        unfold pcs
        rw [List.length_map]
        rw [List.length_cons] at hd4
        omega
      have sl : ∀ {H4 : Hp}, Evl.Ex H3 H4 → Evl.EvL (tSl (rSlL K) (tVar 3) (tPart (tC (.int 1))) tNoPart) [some (.ref S), some (.ref R), none, some (.ref Pa)] H4 ((pcs r).map V.int) := fun {H4} e4 => el_from1 (xs := ((q0.1 : Int) :: pcs r).map V.int) (Evl.ev_var rfl) (Evl.eo_some Evl.ev_c) (Evl.sq_of (e4 _ _ h3))
      refine Evl.s_ret (v := .bl (pd (NearV p l n (some ((q0 :: r).map pieceIs))))) (Evl.ev_is (Evl.ev_andV (a := decide (q0.1 = p)) (b := pd ((pcs r).Pairwise (· < ·)) && !decide ((p : Int) ∈ pcs r)) (Evl.ev_is (Evl.ev_op (x := .int (q0.1 : Int)) (y := .int (p : Int)) (Evl.ev_op (Evl.ev_var rfl) Evl.ev_c (Evl.rv_ixL (Evl.sq_of h3) (atI_nat (j := 0) rfl))) (ev_ixB (j := 0) (Evl.ev_var rfl) hS3 rfl) (Evl.rv_eq rfl)) (congrArg V.bl (decide_eq_decide.mpr ⟨fun y => by have := V.int.inj y; omega, fun y => by rw [y]⟩))) fun _ => Evl.ev_andV (ev_eqSS (ns := pcs r) (sl (Evl.Ex.refl _)) (sl (Evl.Ex.refl _)) lpr) fun _ => ev_notIn (ev_ixB (j := 0) (Evl.ev_var rfl) hS3 rfl) (sl (Evl.Ex.refl _))) (congrArg V.bl ?_)) (ho ▸ fun H4 e4 => q H4 (e13.trans e4))
      refine (pd_is (Iff.intro ?_ fun h => ?_)).symm
      · rintro ⟨near', z, h⟩
        obtain rfl := near_inj (Option.some.inj z)
        obtain ⟨b, r', e, h2, h3⟩ := h.head
        obtain ⟨rfl, rfl⟩ := List.cons.inj e
        rw [decide_eq_true rfl, pd_true (pcs_pw.mpr h2), decide_eq_false fun y => h3 (pcs_in.mp y)]
        rfl
      · rw [Bool.and_eq_true_iff, Bool.and_eq_true_iff, Bool.not_eq_true'] at h
        obtain ⟨h1, h2, h3⟩ := h
        have h1 := of_decide_eq_true h1
        exact ⟨q0 :: r, rfl, { len := hd4, head := ⟨q0.2, r, by rw [← h1], pcs_pw.mp (pd_of h2), fun y => of_decide_eq_false h3 (pcs_in.mpr y)⟩, each := hnear }⟩
end
end P60
end S_Kh
section S_Wr
namespace Hk
open PySem PySem.Spec PyProof.Rows L2 Tl
theorem refs_of {H : Hp} : ∀ {xs : List V} {P : Nat → Addr → Hp → Prop}, (∀ i v, xs[i]? = some v → ∃ r, v = .ref r ∧ P i r H) → ∃ rs : List Addr, xs = rs.map V.ref ∧ rs.length = xs.length ∧ ∀ i r, rs[i]? = some r → P i r H
  | [], P, hx => ⟨[], rfl, rfl, fun i r z => by simp at z⟩
  | v :: r, P, hx => by
    obtain ⟨a, rfl, ha⟩ := hx 0 v rfl
    obtain ⟨rs, h1, h2, h3⟩ := refs_of (xs := r) (P := fun i => P (i + 1)) fun i u hu => hx (i + 1) u (by simpa using hu)
    refine ⟨a :: rs, by rw [h1, List.map_cons], by rw [List.length_cons, List.length_cons, h2], fun i u hu => ?_⟩
    cases i with
    | zero => cases hu; exact ha
    | succ i => exact h3 i u (by simpa using hu)
theorem holds_refs {P : Nat → Addr → Hp → Prop} {n : Nat} {xs : List V} {H : Hp} (h : Holds (fun i v H => ∃ r, v = .ref r ∧ P i r H) n xs H) : ∃ rs : List Addr, xs = rs.map V.ref ∧ rs.length = n ∧ ∀ i r, rs[i]? = some r → P i r H := by
  obtain ⟨hl, hx⟩ := h
  subst hl
  exact refs_of hx
theorem eu_tupL {K : PySem.W.Frag} {σ : L2.St} {H : Hp} {ta : TE} {xs : List V} (h : Evl.EvL ta σ H xs) : Evl.EvU (tCB (fun xs H Q => ∃ p ys, xs = [V.ref p] ∧ ((SqL K H p ys ∧ ∀ l, H l = none → Q (V.ref l) (upd H l (HO.tup ys))) ∨ (SqT K H p ys ∧ Q (V.ref p) H))) (tCons ta tNil)) σ H xs := fun H1 e Q q =>
  h H1 e _ fun p H2 hp e2 h2 => ⟨p, xs, rfl, .inl ⟨Evl.sq_of h2, fun t ht => q t _ (Evl.fresh_back e2 ht) (e2.trans (Evl.Ex.new ht)) upd_same⟩⟩
theorem sum_le {ps : List Str} {m : Nat} (h : ∀ s ∈ ps, s.length ≤ m) : (ps.map (·.length)).sum ≤ m * ps.length := by
  induction ps with
  | nil => simp
  | cons a r ih =>
    have := h a List.mem_cons_self
    have := ih fun s hs => h s (List.mem_cons_of_mem _ hs)
    rw [List.map_cons, List.sum_cons, List.length_cons, Nat.mul_add, Nat.mul_one]
    omega
end Hk
namespace Hk
open PySem PySem.Spec PyProof.Rows L2 Tl
theorem cons_any {te : TE} {tr : TA} {σ : L2.St} {H : Hp} {Q : List V → Hp → Prop} (h : te σ H fun v H1 => tr σ H1 fun vs H2 => Q (v :: vs) H2) : tCons te tr σ H Q := h
theorem asg_go {te : TE} {tz : TS} {i : Nat} {D : Ends} {σ : L2.St} {H : Hp} (h : te σ H fun v H1 => tz D (σ.set i (some v)) H1) : tSeq (tAsg te (gName i)) tz D σ H := h
theorem sl_go {r : V → Option Int → Option Int → Hp → VK → Prop} {te : TE} {tl th : TO} {σ : L2.St} {H : Hp} {Q : VK} (h : te σ H fun x H1 => tl σ H1 fun lo H2 => th σ H2 fun hi H3 => r x lo hi H3 Q) : tSl r te tl th σ H Q := h
theorem op_go {r : R2} {ta tb : TE} {σ : L2.St} {H : Hp} {Q : VK} (h : ta σ H fun x H1 => tb σ H1 fun y H2 => r x y H2 Q) : tOp r ta tb σ H Q := h
theorem tup_go {ta : TA} {σ : L2.St} {H : Hp} {Q : VK} (h : ta σ H fun xs H1 => xs.length ≤ sizeLine ∧ ∀ p, H1 p = none → Q (.ref p) (upd H1 p (.tup xs))) : tTup ta σ H Q := h
theorem lst_go {ta : TA} {σ : L2.St} {H : Hp} {Q : VK} (h : ta σ H fun xs H1 => xs.length ≤ sizeLine ∧ ∀ p, H1 p = none → Q (.ref p) (upd H1 p (.lst xs))) : tLst ta σ H Q := h
theorem ret_go {te : TE} {D : Ends} {σ : L2.St} {H : Hp} (h : te σ H D.rt) : tRet te D σ H := h
theorem call_go {sp : Sp} {dvs vs : List V} {E : XK} {ta : TA} {σ : L2.St} {H : Hp} {Q : VK} (h : Evl.EvA ta σ H vs) (k : ∀ H1, Evl.Ex H H1 → sp (vs ++ dvs) H1 Q E) : tCall sp dvs E ta σ H Q := h H (Evl.Ex.refl H) _ k
theorem cons_c {v : V} {tr : TA} {σ : L2.St} {H : Hp} {Q : List V → Hp → Prop} (h : tr σ H fun vs H2 => Q (v :: vs) H2) : tCons (tC v) tr σ H Q := h
theorem call_raw {sp : Sp} {dvs : List V} {E : XK} {ta : TA} {σ : L2.St} {H : Hp} {Q : VK} (h : ta σ H fun vs H1 => sp (vs ++ dvs) H1 Q E) : tCall sp dvs E ta σ H Q := h
theorem cb_go {r : List V → Hp → VK → Prop} {ta : TA} {σ : L2.St} {H : Hp} {Q : VK} (h : ta σ H fun vs H1 => r vs H1 Q) : tCB r ta σ H Q := h
theorem par_go {i j : Nat} {ta : TA} {tz : TS} {D : Ends} {σ : L2.St} {H : Hp} (h : ta σ H fun vs H1 => ∃ v w, vs = [v, w] ∧ tz D ((σ.set i (some v)).set j (some w)) H1) : tSeq (tPar i j ta) tz D σ H := h
theorem ev_slS {σ : L2.St} {H : Hp} {te : TE} {tl th : TO} {z : Str} {lo hi : Option Int} (h : Evl.Ev te σ H (.str z)) (h1 : Evl.EvO tl σ H lo) (h2 : Evl.EvO th σ H hi) (hz : z.length ≤ sizeLine) : Evl.Ev (tSl rSlS te tl th) σ H (.str (cutS z lo hi)) := fun H1 e Q q =>
  h H1 e _ fun H2 e2 => h1 H2 (e.trans e2) _ fun H3 e3 => h2 H3 ((e.trans e2).trans e3) _ fun H4 e4 => ⟨z, rfl, hz, q H4 ((e2.trans e3).trans e4)⟩
theorem rv_cat {H : Hp} {x y : Str} (h : x.length + y.length ≤ sizeLine) : Evl.RV (fun x y H Q => ∃ i j, x = V.str i ∧ y = V.str j ∧ i.length + j.length ≤ sizeLine ∧ Q (.str (i ++ j)) H) (.str x) (.str y) H (.str (x ++ y)) := fun H1 e Q q => ⟨x, y, rfl, rfl, h, q H1 (Evl.Ex.refl _)⟩
theorem ev_callN {sp : Sp} {gV : List V → List V → List V} {E : XK} {tk : TA} {σ : L2.St} {H : Hp} {zs : List V} {m : Nat} {v : V} (h : Evl.EvA tk σ H zs) (hm : zs.length = m) (hs : Evl.SpV sp (gV [] zs) H v) : Evl.Ev (tCallN 0 m sp gV E tNil tk) σ H v := fun H1 e Q q =>
  h H1 e _ fun H2 e2 => ⟨rfl, hm, hs H2 (e.trans e2) Q (fun H3 e3 => q H3 (e2.trans e3)) E⟩
theorem et_chain {σ : L2.St} {H : Hp} {ta tb tc : TE} {i j k : Int} (h1 : Evl.Ev ta σ H (.int i)) (h2 : Evl.Ev tb σ H (.int j)) (h3 : Evl.Ev tc σ H (.int k)) : Evl.EvT (tTest (tChain (rI0 fun i j => .bl (decide (i ≤ j))) (rI0 fun i j => .bl (decide (i ≤ j))) ta tb tc)) σ H (decide (i ≤ j) && decide (j ≤ k)) := fun H1 e Q q =>
  h1 H1 e _ fun H2 e2 => h2 H2 (e.trans e2) _ fun H3 e3 => ⟨i, j, rfl, rfl, decide (i ≤ j), rfl, if_go (fun hb => h3 H3 ((e.trans e2).trans e3) _ fun H4 e4 => ⟨j, k, rfl, rfl, decide (j ≤ k), rfl, by rw [hb, Bool.true_and] at q; exact q H4 ((e2.trans e3).trans e4)⟩) (fun hb => ⟨false, rfl, by rw [hb, Bool.false_and] at q; exact q H3 (e2.trans e3)⟩)⟩
theorem _root_.Evl.SpV.is {sp : Sp} {vs : List V} {H : Hp} {v w : V} (h : Evl.SpV sp vs H v) (e : v = w) : Evl.SpV sp vs H w := e ▸ h
end Hk
namespace Hk
open PySem PySem.Spec PyProof.Rows L2 Tl
open Evl
theorem ei_rowsN {K : PySem.W.Frag} {σ : L2.St} {H : Hp} {te : TE} {xs : List V} {n : Nat} {W : Hp → Prop} (h : EvL te σ H xs) (hn : n = xs.length) (hW : ∀ A, Ex H A → W A) : EvI (iList K te) σ H n (YRow xs W) := fun H1 e R k => by
  subst hn
  exact h H1 e _ fun a H2 ha e2 hx => ⟨a, rfl, ⟨xs, sq_of hx⟩, k _ (fun A => SqL K A a xs ∧ W A) H2 e2 (walk_list.mono (fun _ q => q.1) fun i A v A' hi q y => ⟨y.1, y.2, q.2⟩) fun A ab s => ⟨sq_of (s _ _ ha hx), hW A ab⟩⟩
/-- a list of ints that stands is not the sorted set of the same -/
theorem ev_neSS {K : PySem.W.Frag} {σ : L2.St} {H : Hp} {ta tb : TE} {w : World} {a : Addr} {ns : List Int} (h : Ev ta σ H (.ref a)) (h2 : Ev tb σ H (.ref a)) (hs : H a = some (.lst (ns.map V.int))) (hl : ns.length < 60) : Ev (tOp (rNeD K) ta (tCB (rSortedSet w) (tCons (tCB (rSetL K w) (tCons tb tNil)) tNil))) σ H (.bl (!pd (ns.Pairwise (· < ·)))) := fun H1 e Q q =>
  h H1 e _ fun H2 e2 => h2 H2 (e.trans e2) _ fun H3 e3 => ⟨a, ns, rfl, sq_of (e3 _ _ (e2 _ _ (e _ _ hs))), by omega, fun p c hp' hc => ⟨p, _, c, rfl, upd_same, by omega, fun ms r hpw hmem hlen hr => by
    have e4 : Ex H3 (upd (upd H3 p _) r (.lst (ms.map V.int))) := (Ex.new hp').trans (Ex.new hr)
    refine ⟨.list (zD ns), .list (zD ms), .lst (sq_of (e4 _ _ (e3 _ _ (e2 _ _ (e _ _ hs))))) (dp_zD ns), .lst (sq_of upd_same) (dp_zD ms), PySem.W.ke_shaped_ints ns, PySem.W.ke_shaped_ints ms, ?_⟩
    rw [eqv_zD]
    have hm : ∀ k, k ∈ ms ↔ k ∈ ns := fun k => (hmem k).trans decide_eq_true_iff
    have hp : decide (ns = ms) = pd (ns.Pairwise (· < ·)) := by
      by_cases z : ns.Pairwise (· < ·)
      · rw [pd_true z, decide_eq_true (asc_eq z hpw fun k => (hm k).symm)]
      · rw [pd_false z, decide_eq_false (fun y : ns = ms => z (by rw [y]; exact hpw))]
    rw [hp]
    exact q _ ((e2.trans e3).trans e4)⟩⟩
end Hk
end S_Wr
section S_Ki
namespace P60
open PySem PySem.Spec PyProof.Rows L2 Tl Hk
def PairAt (H : Hp) (r : Addr) (q : Nat × List Bool) : Prop := H r = some (.tup [.int (q.1 : Int), .str (sS q.2)])
def RowsP (H : Hp) (rs : List Addr) (near : List (Nat × List Bool)) : Prop := rs.length = near.length ∧ ∀ (i : Nat) (r : Addr) (q : Nat × List Bool), rs[i]? = some r → near[i]? = some q → PairAt H r q
def NearAt (H : Hp) (N : Addr) (near : List (Nat × List Bool)) : Prop := ∃ rs : List Addr, H N = some (.tup (rs.map V.ref)) ∧ RowsP H rs near
def LabAt (H : Hp) (A : Addr) (L : Lb) : Prop := ∃ S N, H A = some (.tup [.ref S, .ref N]) ∧ H S = some (.tup (seatL L.p L.l L.n)) ∧ NearAt H N L.near
theorem RowsP.ex {H H' : Hp} {rs : List Addr} {near : List (Nat × List Bool)} (h : RowsP H rs near) (e : Evl.Ex H H') : RowsP H' rs near := ⟨h.1, fun i r q a b => e _ _ (h.2 i r q a b)⟩
theorem NearAt.ex {H H' : Hp} {N : Addr} {near : List (Nat × List Bool)} (h : NearAt H N near) (e : Evl.Ex H H') : NearAt H' N near := h.imp fun rs ⟨a, b⟩ => ⟨e _ _ a, b.ex e⟩
theorem LabAt.ex {H H' : Hp} {A : Addr} {L : Lb} (h : LabAt H A L) (e : Evl.Ex H H') : LabAt H' A L := h.imp fun S h => h.imp fun N ⟨a, b, c⟩ => ⟨e _ _ a, e _ _ b, c.ex e⟩
/-- the parts of a label's text -/
def gi (q : Nat × List Bool) : List Str := ["/", dS q.1, sS q.2]
def items (L : Lb) : List Str := [dS L.p, dS L.l, dS L.n] ++ (L.near.map gi).flatten
def txt (its : List Str) : Str := Txt.join " " its
structure Its (its : List Str) : Prop where
  ne : its ≠ []
  len : its.length ≤ 60
  all : ∀ s ∈ its, Item s
def RdP (its : List Str) (L : Lb) : Prop := L.Ok ∧ its = items L
theorem Its.sum {its : List Str} (h : Its its) : (its.map (·.length)).sum + its.length * 1 ≤ 10000 := by
  have h1 := sum_le (ps := its) (m := 141) fun s hs => (h.all s hs).len
  have h2 := h.len
  omega
theorem Its.txt_len {its : List Str} (h : Its its) : (txt its).length ≤ 10000 := Nat.le_trans (join_len " " its) h.sum
theorem Its.split {its : List Str} (h : Its its) : Txt.split (txt its) " " = its := TL.split_join (S := []) (by decide +kernel) (by decide +kernel) h.ne fun p hp => (h.all p hp).no32
theorem flat_len : ∀ near : List (Nat × List Bool), ((near.map gi).flatten).length = 3 * near.length
  | [] => rfl
  | q :: r => by
    rw [List.map_cons, List.flatten_cons, List.length_append, flat_len r, List.length_cons, show (gi q).length = 3 from rfl]
    omega
theorem flat_drop : ∀ (near : List (Nat × List Bool)) (i : Nat), ((near.map gi).flatten).drop (3 * i) = ((near.drop i).map gi).flatten
  | near, 0 => by rw [Nat.mul_zero, List.drop_zero, List.drop_zero]
  | [], i + 1 => by simp
  | q :: r, i + 1 => by
    rw [List.drop_succ_cons, ← flat_drop r i, List.map_cons, List.flatten_cons, List.drop_append]
    rw [show (gi q).length = 3 from rfl, List.drop_of_length_le (by show 3 ≤ _; omega), List.nil_append, show 3 * (i + 1) - 3 = 3 * i by omega]
theorem items_len (L : Lb) : (items L).length = 3 + 3 * L.near.length := by
  unfold items
  rw [List.length_append, flat_len]
  rfl
def grp (its : List Str) (i : Nat) : List Str := (its.drop (3 + 3 * i)).take 3
def gn (m : Nat) : Nat := (m - 3 + 2) / 3
theorem grp_cut (its : List Str) (i : Nat) : cutV (its.map V.str) (some (3 + (i : Int) * 3)) (some (3 + (i : Int) * 3 + 3)) = (grp its i).map V.str := by
  unfold cutV grp
  rw [show 3 + (i : Int) * 3 + 3 = ((3 + 3 * i + 3 : Nat) : Int) by omega, show 3 + (i : Int) * 3 = ((3 + 3 * i : Nat) : Int) by omega, HT.sIx_nat, HT.sIx_nat, List.length_map, ← List.map_drop, ← List.map_take]
  congr 1
  by_cases h : 3 + 3 * i ≤ its.length
  · rw [Nat.min_eq_left h]
    by_cases h2 : 3 + 3 * i + 3 ≤ its.length
    · rw [Nat.min_eq_left h2, show 3 + 3 * i + 3 - (3 + 3 * i) = 3 by omega]
    · rw [Nat.min_eq_right (by omega), List.take_of_length_le (by rw [List.length_drop]; omega), List.take_of_length_le (by rw [List.length_drop]; omega)]
  · rw [show min (3 + 3 * i) its.length = its.length by omega, show min (3 + 3 * i + 3) its.length = its.length by omega, List.drop_of_length_le (Nat.le_refl _), List.drop_of_length_le (by omega), List.take_nil, List.take_nil]
theorem grp_items {L : Lb} {i : Nat} (hi : i < L.near.length) : grp (items L) i = gi L.near[i] := by
  unfold grp items
  rw [List.drop_append, List.drop_of_length_le (by show 3 ≤ _; omega), List.nil_append, show 3 + 3 * i - [dS L.p, dS L.l, dS L.n].length = 3 * i by show 3 + 3 * i - 3 = _; omega, flat_drop]
  rw [List.drop_eq_getElem_cons hi, List.map_cons, List.flatten_cons, show (3 : Nat) = (gi L.near[i]).length from rfl, List.take_left']
  rfl
theorem chunks : ∀ (m : Nat) (ys : List Str), ys.length = 3 * m → ys = ((List.range m).map fun i => (ys.drop (3 * i)).take 3).flatten
  | 0, ys, h => by
    have : ys = [] := List.length_eq_zero_iff.mp (by omega)
    rw [this]
    rfl
  | m + 1, ys, h => by
    have ih := chunks m (ys.drop 3) (by rw [List.length_drop]; omega)
    rw [List.range_succ_eq_map, List.map_cons, List.flatten_cons, List.map_map]
    rw [Nat.mul_zero, List.drop_zero]
    have e : (fun i => (ys.drop (3 * i)).take 3) ∘ Nat.succ = fun i => ((ys.drop 3).drop (3 * i)).take 3 := by
      funext i
      show (ys.drop (3 * (i + 1))).take 3 = _
      rw [List.drop_drop, show 3 + 3 * i = 3 * (i + 1) by omega]
    rw [e, ← ih, List.take_append_drop]
theorem items_of {its : List Str} {L : Lb} (h1 : its.take 3 = [dS L.p, dS L.l, dS L.n]) (h2 : its.length = 3 + 3 * L.near.length) (h3 : ∀ i (h : i < L.near.length), grp its i = gi L.near[i]) : its = items L := by
  unfold items
  rw [← h1]
  have e := chunks L.near.length (its.drop 3) (by rw [List.length_drop]; omega)
  have e2 : ((List.range L.near.length).map fun i => ((its.drop 3).drop (3 * i)).take 3) = L.near.map gi := by
    refine List.ext_getElem (by simp) fun i a b => ?_
    rw [List.getElem_map, List.getElem_map, List.getElem_range, List.drop_drop]
    exact h3 i (by simpa using b)
  rw [e2] at e
  rw [← e, List.take_append_drop]
theorem rgC : ∀ m, m < 61 → ((3 : Int) ≠ 0 ∧ (3 : Int).natAbs < 1073741824 ∧ Builtin.Range.small 3 ((m : Nat) : Int) 3 = true ∧ Builtin.Range.rangeSize 3 ((m : Nat) : Int) 3 = gn m) := by decide +kernel
abbrev nLI : List Str := ["value", "items", "seat", "groups", "near", "item", "at", "group", "_", "piece", "signs"]
theorem scLabelIn : FnScope nLI ["value"] (defScope sLabelIn) := ⟨rfl, rfl, rfl, by decide +kernel, rfl, by decide +kernel, by decide +kernel⟩
def spLabelIn (K : PySem.W.Frag) : Sp := fun vs H Q _ => ∃ x, vs = [x] ∧ ((∃ n, Ty7 K H x n ∧ isStrV x = false ∧ ∀ H1, Evl.Ex H H1 → Q .non H1) ∨ ∃ its, x = .str (txt its) ∧ Its its ∧ (∀ L, RdP its L → ∀ A H1, Evl.Ex H H1 → LabAt H1 A L → Q (.ref A) H1) ∧ ((∀ L, ¬RdP its L) → ∀ H1, Evl.Ex H H1 → Q .non H1))
def gok (g : List Str) : Bool := decide (g.length = 3) && decide (g[0]? = some ("/" : Str))
theorem numV_ty {K : PySem.W.Frag} {H : Hp} (o : Option Nat) : ∃ n, Ty7 K H (numV o) n := by
  cases o with
  | none => exact ⟨_, .non⟩
  | some n => exact ⟨_, .int _⟩
theorem numV_inj {o : Option Nat} {n : Nat} (h : numV o = .int (n : Int)) : o = some n := by
  cases o with
  | none => cases h
  | some m => have := V.int.inj h; congr 1; omega
theorem rd_sv {its : List Str} {L : Lb} (h : RdP its L) : (its.take 3).map (numV ∘ num) = seatL L.p L.l L.n := by
  obtain ⟨h1, rfl⟩ := h
  have e : (items L).take 3 = [dS L.p, dS L.l, dS L.n] := rfl
  have a1 := h1.hp
  have a2 := h1.hl
  have a3 := h1.hn
  rw [e, List.map_cons, List.map_cons, List.map_cons, List.map_nil, Function.comp_apply, Function.comp_apply, Function.comp_apply, num_dS L.p (by omega), num_dS L.l (by omega), num_dS L.n (by omega)]
  rfl
theorem rd_gn {its : List Str} {L : Lb} (h : RdP its L) : gn its.length = L.near.length := by
  obtain ⟨h1, rfl⟩ := h
  rw [items_len]
  unfold gn
  omega
theorem rd_grp {its : List Str} {L : Lb} (h : RdP its L) {i : Nat} (hi : i < L.near.length) : grp its i = gi L.near[i] := by
  obtain ⟨h1, rfl⟩ := h
  exact grp_items hi
theorem gok_gi (q : Nat × List Bool) : gok (gi q) = true := by
  unfold gok gi
  rw [decide_eq_true (show [("/" : Str), dS q.1, sS q.2].length = 3 from rfl), decide_eq_true (show [("/" : Str), dS q.1, sS q.2][0]? = some ("/" : Str) from rfl)]
  rfl
theorem of_gok {g : List Str} (h : gok g = true) : g = [("/" : Str), g.getD 1 "", g.getD 2 ""] := by
  unfold gok at h
  rw [Bool.and_eq_true_iff] at h
  have h1 := of_decide_eq_true h.1
  have h2 := of_decide_eq_true h.2
  match g, h1 with
  | [a, b, c], _ =>
    obtain rfl : a = "/" := Option.some.inj h2
    rfl
theorem three_of {its : List Str} {p l n : Nat} (hI : ∀ s ∈ its, Item s) (h : (its.take 3).map (numV ∘ num) = seatL p l n) : its.take 3 = [dS p, dS l, dS n] := by
  have hm : ∀ s ∈ its.take 3, Item s := fun s hs => hI s (List.mem_of_mem_take hs)
  generalize its.take 3 = t at h hm
  have hl := congrArg List.length h
  rw [List.length_map] at hl
  match t, hl with
  | [a, b, c], _ =>
    have h : [numV (num a), numV (num b), numV (num c)] = [V.int (p : Int), .int (l : Int), .int (n : Int)] := h
    obtain ⟨h1, h⟩ := List.cons.inj h
    obtain ⟨h2, h⟩ := List.cons.inj h
    obtain ⟨h3, _⟩ := List.cons.inj h
    rw [((hm a (by simp)).back (numV_inj h1)).1, ((hm b (by simp)).back (numV_inj h2)).1, ((hm c (by simp)).back (numV_inj h3)).1]
section
variable {P : Program} {w : World} {K : PySem.W.Frag} {mg : Str → Option Value} {base : Heap}
abbrev teNi : TE := tCall spNumberIn [] E0 (tCons (tVar 5) (tCons (tC (.int 0)) (tCons (tC (.int 999)) tNil)))
abbrev teGr (K : PySem.W.Frag) : TE := tAndV (tOp rEq (tCB (Evl.rLenS K) (tCons (tVar 7) tNil)) (tC (.int 3))) (tOp rEq (tOp (rIxL K) (tVar 7) (tC (.int 0))) (tC (.str "/")))
set_option maxHeartbeats 1000000 in
theorem ok_labelIn {f fN fS fP : Addr} {fd fdN fdS fdP : FuncData} {k : Nat} (F : Fun K "label_in" "label_in" sLabelIn f fd)
    (FN : Fun K "number_in" "number_in" sNumberIn fN fdN) (GN : FnOk P w K mg base CX0 k fN fdN ["item", "least", "most"] spNumberIn) (bN : Binds K fdN ["item", "least", "most"] []) (gN : mg "number_in" = some (.ref fN))
    (FS : Fun K "_is_small_seat" "_is_small_seat" sSmallSeat fS fdS) (GS : FnOk P w K mg base CX0 k fS fdS ["value"] (spSeat K SmallP)) (bS : Binds K fdS ["value"] []) (gS : mg "_is_small_seat" = some (.ref fS))
    (FP : Fun K "_are_near_pieces" "_are_near_pieces" sNearPieces fP fdP) (GP : FnOk P w K mg base CX0 k fP fdP ["seat", "value"] (spNearPieces K)) (bP : Binds K fdP ["seat", "value"] []) (gP : mg "_are_near_pieces" = some (.ref fP))
    {t1 : Tok} (g1 : mg "MOST_NUMBER" = some (.int 999 t1)) (mi : mg "isinstance" = none) (mstr : mg "str" = none) (mlen : mg "len" = none) (mall : mg "all" = none) (mtup : mg "tuple" = none) (mrange : mg "range" = none) :
    FnOk P w K mg base CX0 (k + 1) f fd ["value"] (spLabelIn K) := by
  refine F.ok scLabelIn (fun vs H Q E h => ?_) (fun cdv A outer s H vs Q E hr h => ?_)
  · obtain ⟨x, rfl, _⟩ := h
    rfl
  · obtain ⟨x, rfl, h⟩ := h
    have nd := scLabelIn.nd
    refine ⟨_, pss_cons (ps_if (pt_not (pt_val (pe_callB call_isi (by rfl) mi (by decide +kernel) (pa_cons (pv 0) (pa_cons (pe_bltn (v := .ty "str") (by rfl) mstr (by decide +kernel) rfl) pa_nil))))) (pss_one (ps_ret pe_non)) pss_nil)
      (pss_cons (ps_set (i := 1) nd rfl (.inr rfl) (pe_bm PySem.F.plainAttrs_str PySem.F.slot_str_split PySem.F.type_str_split mt_split (pv 0) (pa_cons pe_str pa_nil)))
      (pss_cons (ps_set (i := 2) nd rfl (.inl rfl) (pe_callTy call_tuple_of (by rfl) mtup (by decide +kernel) (pa_cons
          (pe_lc (own := [("item", 5)]) (g := gName 5) (tt := tYes) (te := teNi) rfl nd (pi_list (pe_slice sl_list (pv 1) po_none (po_some pe_int))) (blkOk_by (N := nLI) (sc := defScope sLabelIn) (by decide +kernel)) (fun _ _ _ _ _ => pg_name (i := 5) nd rfl (Or.inl rfl)) (fun _ _ _ _ _ => pts_nil)
            (fun _ _ _ _ _ => pe_call GN hr (by rfl) gN FN.kp bN .nil pass0 (pa_cons (pv 5) (pa_cons pe_int (pa_cons (pe_glob (v := .int 999) (by rfl) g1 ⟨_, rfl⟩) pa_nil))))) pa_nil)))
      (pss_cons (ps_setLc (i := 3) (own := [("at", 6)]) (g := gName 6) (tt := tYes) (te := tSl (rSlL K) (tVar 1) (tPart (tVar 6)) (tPart (tOp (rI0 fun i j => .int (i + j)) (tVar 6) (tC (.int 3))))) rfl nd rfl rfl (sw_true rfl rfl rfl (by decide +kernel)) (pi_range3 (by rfl) mrange (pa_cons pe_int (pa_cons (pe_callB call_len_seq (by rfl) mlen PySem.boot_len (pa_cons (pv 1) pa_nil)) (pa_cons pe_int pa_nil)))) (blkOk_by (N := nLI) (sc := defScope sLabelIn) (by decide +kernel)) (fun _ _ _ _ _ => pg_name (i := 6) nd rfl (Or.inl rfl)) (fun _ _ _ _ _ => pts_nil)
            (fun _ _ _ _ _ => pe_slice sl_list (pv 1) (po_some (pv 6)) (po_some (pe_op op_add (pv 6) pe_int))))
      (pss_cons (ps_if (PW.pt (pw_or (pt_not (pt_val (pe_call GS hr (by rfl) gS FS.kp bS .nil pass0 (pa_cons (pv 2) pa_nil)))) (pw_or1 (pt_not (pt_val (pe_callB (cr_all rfl) (by rfl) mall (by decide +kernel) (pa_cons
          (pe_lc (own := [("group", 7)]) (g := gName 7) (tt := tYes) (te := teGr K) rfl nd (pi_list (pv 3)) (blkOk_by (N := nLI) (sc := defScope sLabelIn) (by decide +kernel)) (fun _ _ _ _ _ => pg_name (i := 7) nd rfl (Or.inl rfl)) (fun _ _ _ _ _ => pts_nil)
            (fun _ _ _ _ _ => pe_and (pe_cmpR op_eq (pe_callB call_len_seq (by rfl) mlen PySem.boot_len (pa_cons (pv 7) pa_nil)) pe_int (nomark _)) (pe_one (pe_cmpR op_eq (pe_ix ix_list (pv 7) pe_int (fun _ _ => rfl)) pe_str (nomark _))))) pa_nil))))))) (pss_one (ps_ret pe_non)) pss_nil)
      (pss_cons (ps_set (i := 4) nd rfl (.inl rfl) (pe_callTy call_tuple_of (by rfl) mtup (by decide +kernel) (pa_cons
          (pe_lc (own := [("_", 8), ("piece", 9), ("signs", 10)]) (g := gLst K 3 (gCons (gName 8) (gCons (gName 9) (gCons (gName 10) gNil)))) (tt := tYes) (te := tTup (tCons (tCall spNumberIn [] E0 (tCons (tVar 9) (tCons (tC (.int 0)) (tCons (tC (.int 999)) tNil)))) (tCons (tVar 10) tNil))) rfl nd (pi_list (pv 3)) (blkOk_by (N := nLI) (sc := defScope sLabelIn) (by decide +kernel)) (fun _ _ _ _ _ => pg_lst (by rfl) (pgs_cons (pg_name (i := 8) nd rfl (Or.inl rfl)) (pgs_cons (pg_name (i := 9) nd rfl (Or.inl rfl)) (pgs_cons (pg_name (i := 10) nd rfl (Or.inl rfl)) pgs_nil)))) (fun _ _ _ _ _ => pts_nil)
            (fun _ _ _ _ _ => pe_tup (pa_cons (pe_call GN hr (by rfl) gN FN.kp bN .nil pass0 (pa_cons (pv 9) (pa_cons pe_int (pa_cons (pe_glob (v := .int 999) (by rfl) g1 ⟨_, rfl⟩) pa_nil)))) (pa_cons (pv 10) pa_nil)))) pa_nil)))
      (pss_one (ps_ret (pe_ifExp (pt_val (pe_call GP hr (by rfl) gP FP.kp bP .nil pass0 (pa_cons (pv 2) (pa_cons (pv 4) pa_nil)))) (pe_tup (pa_cons (pv 2) (pa_cons (pv 4) pa_nil))) pe_non)))))))), ?_⟩
    rcases h with ⟨n, hty, hns, q⟩ | ⟨its, rfl, hI, qy, qn⟩
    · refine Evl.q_when (b := true) (Evl.et_is (Evl.et_not (Evl.et_B (Evl.ev_cb (Evl.ea_cons (Evl.ev_var rfl) (Evl.ea_cons Evl.ev_c Evl.ea_nil)) (rc_str hty)))) (by rw [hns]; rfl)) (fun _ H1 e1 => ?_) fun z => nomatch z
      exact Evl.s_ret (v := .non) Evl.ev_c fun H2 e2 => q H2 (e1.trans e2)
    have hlen := hI.len
    refine Evl.q_when (b := false) (Evl.et_is (Evl.et_not (Evl.et_B (Evl.ev_cb (Evl.ea_cons (Evl.ev_var rfl) (Evl.ea_cons Evl.ev_c Evl.ea_nil)) (rc_str (.str _))))) rfl) (fun z => nomatch z) fun _ H1 e1 => ?_
    refine Evl.q_asgL (xs := its.map V.str) (fun G1 f1 Q' q' => ⟨.str (txt its), rfl, rfl, txt its, " ", rfl, rfl, by decide +kernel, by have := hI.txt_len; rw [sizeLine_eq]; omega, fun p hp => ?_⟩) fun I H2 hI0 e2 h2 => ?_
    · rw [hI.split]
      exact q' p _ hp (Evl.Ex.new hp) upd_same
    have gIt : ∀ i, i < its.length → Item (its.getD i "") := fun i hi => by
      rw [List.getD_eq_getElem?_getD, List.getElem?_eq_getElem hi]
      exact hI.all _ (List.getElem_mem hi)
    obtain ⟨sv, esv⟩ : ∃ sv, (its.take 3).map (numV ∘ num) = sv := ⟨_, rfl⟩
    refine Evl.q_asgU (xs := sv) (eu_tupL ?_) fun S H3 hS0 e3 hS => ?_
    · have hcut : Evl.EvL (tSl (rSlL K) (tVar 1) tNoPart (tPart (tC (.int 3)))) (wipe [some (.str (txt its)), some (.ref I), none, none, none, none, none, none, none, none, none] [5]) H2 ((its.take 3).map V.str) := by
        rw [List.map_take, ← cutTo']
        exact Evl.el_sl (Evl.ev_var rfl) Evl.eo_none (Evl.eo_some Evl.ev_c) (Evl.sq_of h2)
      have lt3 : (its.take 3).length ≤ 3 := by rw [List.length_take]; omega
      rw [← esv, ← given_all (its.take 3) "" (numV ∘ num), ← List.length_map (f := V.str)]
      refine el_lcI (te := teNi) (t := tYes) (σ := [some (.str (txt its)), some (.ref I), none, none, none, none, none, none, none, none, none]) (H := H2) (vs := [5]) (fun _ => true) _ (ei_listN (K := K) hcut) (aims_at (j := 5)) (fun _ => rfl) (by rw [List.length_map]; omega) (fun _ _ _ _ => et_yes) fun i H4 e4 hi _ => ?_
      rw [List.length_map] at hi
      have x1 : ((its.take 3).map V.str).getD i .non = .str ((its.take 3).getD i "") := by
        rw [List.getD_eq_getElem?_getD, List.getElem?_map, List.getElem?_eq_getElem hi, List.getD_eq_getElem?_getD, List.getElem?_eq_getElem hi]
        rfl
      rw [x1]
      refine Evl.ev_call (Evl.ea_cons (Evl.ev_var rfl) (Evl.ea_cons Evl.ev_c (Evl.ea_cons Evl.ev_c Evl.ea_nil))) (spv_numberIn ?_)
      rw [List.getD_eq_getElem?_getD, List.getElem?_eq_getElem hi]
      exact hI.all _ (List.mem_of_mem_take (List.getElem_mem hi))
    have h3 := e3 _ _ h2
    have lmi : (its.map V.str).length = its.length := List.length_map _
    refine q_asgN (Evl.Ex.refl _) (en_nl (en_lc (n := gn its.length) (ei_rng3 (Evl.ea_cons Evl.ev_c (Evl.ea_cons (Evl.ev_is (Evl.ev_len (Evl.ev_var rfl) (Evl.sq_of h3)) (congrArg (fun n : Nat => V.int (n : Int)) lmi)) (Evl.ea_cons Evl.ev_c Evl.ea_nil))) (rgC _ (by omega))) (aims_fn (j := 6)) (fun _ => rfl) (by unfold gn; omega) (fun i v H' => ∃ a, v = .ref a ∧ H' a = some (.lst (cutV (its.map V.str) (some (3 + (i : Int) * 3)) (some (3 + (i : Int) * 3 + 3)))))
      fun i hi => en_l (Evl.el_sl (Evl.ev_var rfl) (Evl.eo_some (Evl.ev_var rfl)) (Evl.eo_some (Evl.ev_op (Evl.ev_var rfl) Evl.ev_c Evl.rv_I0)) (Evl.sq_of h3)))) fun v H4 e4 hv => ?_
    obtain ⟨Gp, xs, rfl, hG, hold⟩ := hv H4 e4 fun a o _ h => h
    obtain ⟨gs, rfl, gl, gat⟩ := holds_refs (P := fun i r H' => H' r = some (.lst (cutV (its.map V.str) (some (3 + (i : Int) * 3)) (some (3 + (i : Int) * 3 + 3))))) hold
    obtain ⟨m, hm⟩ : ∃ m, gn its.length = m := ⟨_, rfl⟩
    rw [hm] at gl
    have hm60 : m ≤ 60 := by rw [← hm]; unfold gn; omega
    have lgs : (gs.map V.ref).length = m := by rw [List.length_map, gl]
    have at_ : ∀ i, i < m → ∃ r' : Addr, (gs.map V.ref).getD i .non = .ref r' ∧ H4 r' = some (.lst ((grp its i).map V.str)) := fun i hi => by
      have hi2 : i < gs.length := by omega
      refine ⟨gs[i], ?_, ?_⟩
      · rw [List.getD_eq_getElem?_getD, List.getElem?_map, List.getElem?_eq_getElem hi2] <;> rfl
      · rw [← grp_cut]
        exact gat i _ (List.getElem?_eq_getElem hi2)
    have hS4 : H4 S = some (.tup sv) := e4 _ _ hS
    have hsv : ValR K H4 (.ref S) (some sv) := .tup (Evl.st_of hS4) (by rw [← esv, List.length_map, List.length_take]; omega) fun v hv => by
      rw [← esv] at hv
      obtain ⟨s, _, rfl⟩ := List.mem_map.mp hv
      exact numV_ty _
    refine Evl.q_when (b := !pd (SmallP (some sv)) || !((List.range m).all fun i => gok (grp its i))) (Evl.et_or (Evl.et_not (Evl.et_B (Evl.ev_call (Evl.ea_cons (Evl.ev_var rfl) Evl.ea_nil) (spv_seat hsv)))) fun _ => Evl.et_not (Evl.et_B (Evl.ev_is (ev_allN (bs := (List.range m).map fun i => gok (grp its i)) ?_) (by rw [List.all_map]; rfl)))) (fun hb H5 e5 => ?_) fun hb H5 e5 => ?_
    · have hh := el_lcI (te := teGr K) (t := tYes) (σ := [some (.str (txt its)), some (.ref I), some (.ref S), some (.ref Gp), none, none, none, none, none, none, none]) (H := H4) (vs := [7]) (fun _ => true) (fun i => V.bl (gok (grp its i))) (ei_list (K := K) (Evl.ev_var (i := 3) rfl) (Evl.sq_of hG)) (aims_at (j := 7)) (fun _ => rfl) (by omega) (fun _ _ _ _ => et_yes) fun i H6 e6 hi _ => by
        rw [lgs] at hi
        obtain ⟨r', x1, x4⟩ := at_ i hi
        rw [x1]
        have lg : ((grp its i).map V.str).length = (grp its i).length := List.length_map _
        refine Evl.ev_andV (a := decide ((grp its i).length = 3)) (Evl.ev_is (Evl.ev_op (Evl.ev_len (Evl.ev_var rfl) (Evl.sq_of (e6 _ _ x4))) Evl.ev_c (Evl.rv_eq rfl)) (congrArg V.bl (decide_eq_decide.mpr ⟨fun z => by have := V.int.inj z; omega, fun z => by rw [lg, z]; rfl⟩))) fun h3' => ?_
        have h3' := of_decide_eq_true h3'
        have x5 := e6 _ _ x4
        generalize grp its i = g at h3' x5
        match g, h3' with
        | [a, b, c], _ =>
          refine Evl.ev_is (Evl.ev_op (x := .str a) (Evl.ev_op (Evl.ev_var rfl) Evl.ev_c (Evl.rv_ixL (Evl.sq_of x5) (atI_nat (j := 0) rfl))) Evl.ev_c (Evl.rv_eq rfl)) (congrArg V.bl (decide_eq_decide.mpr ⟨fun z => ?_, fun z => ?_⟩))
          · rw [V.str.inj z]
            rfl
          · rw [Option.some.inj z]
      have er : Evl.given (gs.map V.ref).length (fun _ => true) (fun i => V.bl (gok (grp its i))) = ((List.range m).map fun i => gok (grp its i)).map V.bl := by
        rw [lgs]
        unfold Evl.given
        rw [List.filter_eq_self.mpr (fun _ _ => rfl), List.map_map]
        rfl
      rw [er] at hh
      exact hh
    · refine Evl.s_ret (v := .non) Evl.ev_c fun H6 e6 => qn (fun L hL => ?_) H6 (((((e1.trans e2).trans e3).trans e4).trans e5).trans e6)
      have hO := hL.1
      have hs : SmallP (some sv) := ⟨L.p, L.l, L.n, by rw [← esv, rd_sv hL]; rfl, hO.hn, hO.hp, hO.hl⟩
      have hg : ((List.range m).all fun i => gok (grp its i)) = true := by
        rw [List.all_eq_true]
        intro i hi
        have hi : i < L.near.length := by
          have := List.mem_range.mp hi
          rw [← rd_gn hL]
          omega
        rw [rd_grp hL hi]
        exact gok_gi _
      rw [pd_true hs, hg] at hb
      cases hb
    rw [Bool.or_eq_false_iff, Bool.not_eq_false', Bool.not_eq_false'] at hb
    obtain ⟨p, l, n, hsl, hn, hp, hl⟩ := pd_of hb.1
    have hsl : sv = seatL p l n := Option.some.inj hsl
    have hgo : ∀ i, i < m → gok (grp its i) = true := fun i hi => List.all_eq_true.mp hb.2 i (List.mem_range.mpr hi)
    obtain ⟨G, hGd⟩ : ∃ G : Nat → Str × Str, ∀ i, G i = ((grp its i).getD 1 "", (grp its i).getD 2 "") := ⟨_, fun _ => rfl⟩
    have hgG : ∀ i, i < m → grp its i = [("/" : Str), (G i).1, (G i).2] := fun i hi => by
      rw [hGd]
      exact of_gok (hgo i hi)
    have hgI : ∀ i, i < m → Item (G i).1 ∧ Item (G i).2 := fun i hi => by
      have hsub : ∀ s ∈ grp its i, Item s := fun s hs => hI.all s (List.mem_of_mem_drop (List.mem_of_mem_take hs))
      rw [hgG i hi] at hsub
      exact ⟨hsub _ (by simp), hsub _ (by simp)⟩
    refine q_asgN (Evl.Ex.refl _) (en_tupNL (en_lc (n := m) (ei_rowsL (n := m) (xs := gs.map V.ref) (W := fun A => ∀ i v, i < m → (gs.map V.ref)[i]? = some v → ∃ r, v = .ref r ∧ A r = some (.lst [V.str "/", V.str (G i).1, V.str (G i).2])) (Evl.ev_var rfl) (Evl.sq_of (e5 _ _ hG)) lgs.symm fun A hA i v hi hv => ?_)
      (aims_rowL3 (K := K) (xs := gs.map V.ref) (j1 := 8) (j2 := 9) (j3 := 10) (c := fun i => (V.str "/", V.str (G i).1, V.str (G i).2))) (fun _ => rfl) (by omega) (fun i v H' => ∃ r, v = .ref r ∧ H' r = some (.tup [numV (num (G i).1), .str (G i).2])) fun i hi => en_u (Evl.eu_tup (Evl.ea_cons (Evl.ev_call (Evl.ea_cons (Evl.ev_var rfl) (Evl.ea_cons Evl.ev_c (Evl.ea_cons Evl.ev_c Evl.ea_nil))) (spv_numberIn (hgI i hi).1)) (Evl.ea_cons (Evl.ev_var rfl) Evl.ea_nil)) (by show 2 ≤ 100000; decide)))) fun v H6 e6 hv => ?_
    · obtain ⟨r', x1, x4⟩ := at_ i hi
      rw [List.getD_eq_getElem?_getD, hv] at x1
      have x1 : v = .ref r' := x1
      refine ⟨r', x1, ?_⟩
      rw [hA _ _ (e5 _ _ x4), hgG i hi]
      rfl
    obtain ⟨N, xs, rfl, hN, hold2⟩ := hv H6 e6 fun a o _ h => h
    obtain ⟨rs, rfl, rl, rat⟩ := holds_refs (P := fun i r H' => H' r = some (.tup [numV (num (G i).1), .str (G i).2])) hold2
    have hS6 : H6 S = some (.tup (seatL p l n)) := e6 _ _ (e5 _ _ (hsl ▸ hS4))
    have hDV : DV K H6 (.ref N) (some ((List.range m).map fun i => some [numV (num (G i).1), .str (G i).2])) := by
      refine ⟨rs.map V.ref, .tup (Evl.st_of hN) (by rw [List.length_map]; omega) (fun v hv => ?_), by rw [List.length_map, List.length_map, List.length_range, rl], fun i v d h1 h2 => ?_⟩
      · obtain ⟨r, hr, rfl⟩ := List.mem_map.mp hv
        obtain ⟨i, hi, rfl⟩ := List.mem_iff_getElem.mp hr
        exact ⟨_, .tup (Evl.st_of (rat i _ (List.getElem?_eq_getElem hi)))⟩
      · rw [List.getElem?_map] at h1 h2
        have hi : i < m := by
          rcases Nat.lt_or_ge i m with z | z
          · exact z
          · rw [List.getElem?_eq_none (by rw [List.length_range]; exact z)] at h2
            cases h2
        rw [List.getElem?_range hi] at h2
        obtain rfl := Option.some.inj h2
        have hi2 : i < rs.length := by omega
        rw [List.getElem?_eq_getElem hi2] at h1
        obtain rfl := Option.some.inj h1
        refine ⟨.tup (Evl.st_of (rat i _ (List.getElem?_eq_getElem hi2))) (by show 2 ≤ 4000; decide) fun v hv => ?_, fun ys hy z hz => ?_⟩
        · simp only [List.mem_cons, List.not_mem_nil, or_false] at hv
          rcases hv with rfl | rfl
          · exact numV_ty _
          · exact ⟨_, .str _⟩
        · rw [← Option.some.inj hy] at hz
          simp only [List.mem_cons, List.not_mem_nil, or_false] at hz
          rcases hz with hz | hz
          · cases hn' : num (G i).1 with
            | none => rw [hn'] at hz; cases hz
            | some _ => rw [hn'] at hz; cases hz
          · rw [V.str.inj hz]
            have := (hgI i hi).2.len
            omega
    have e16 : Evl.Ex H H6 := ((((e1.trans e2).trans e3).trans e4).trans e5).trans e6
    refine (Evl.et_B (Evl.ev_call (Evl.ea_cons (Evl.ev_var rfl) (Evl.ea_cons (Evl.ev_var rfl) Evl.ea_nil)) (spv_nearPieces (.inr (Evl.st_of hS6)) hl hn hDV))) H6 (Evl.Ex.refl _) _ fun H7 e7 => if_go (fun hb => ?_) fun hb => ?_
    · obtain ⟨near, eds, hNP⟩ := pd_of hb
      have eds := Option.some.inj eds
      have hnl : near.length = m := by
        have := congrArg List.length eds
        rw [List.length_map, List.length_range, List.length_map] at this
        exact this.symm
      have each : ∀ i (h : i < near.length), (G i).1 = dS near[i].1 ∧ (G i).2 = sS near[i].2 ∧ num (G i).1 = some near[i].1 := fun i hi => by
        have hi2 : i < m := by omega
        have := congrArg (fun l => l[i]?) eds
        rw [List.getElem?_map, List.getElem?_range hi2, List.getElem?_map, List.getElem?_eq_getElem hi] at this
        have := Option.some.inj (Option.some.inj this)
        obtain ⟨y1, this⟩ := List.cons.inj this
        obtain ⟨y2, _⟩ := List.cons.inj this
        have y1 := numV_inj y1
        exact ⟨((hgI i hi2).1.back y1).1, V.str.inj y2, y1⟩
      have t3 := three_of (p := p) (l := l) (n := n) hI.all (by rw [esv]; exact hsl)
      have hl3 : 3 ≤ its.length := by
        have := congrArg List.length t3
        rw [List.length_take] at this
        have h3 : [dS p, dS l, dS n].length = 3 := rfl
        omega
      have hlen3 : its.length = 3 + 3 * near.length := by
        rw [hnl]
        have hg := hm
        unfold gn at hg
        rcases Nat.eq_zero_or_pos m with z | z
        · omega
        · have := congrArg List.length (hgG (m - 1) (by omega))
          unfold grp at this
          rw [List.length_take, List.length_drop] at this
          have h3 : [("/" : Str), (G (m - 1)).1, (G (m - 1)).2].length = 3 := rfl
          omega
      have hRd : RdP its ⟨p, l, n, near⟩ := ⟨⟨hp, hl, hn, hNP⟩, items_of t3 hlen3 fun i hi => by
        rw [hgG i (by rw [← hnl]; exact hi)]
        obtain ⟨y1, y2, _⟩ := each i hi
        rw [y1, y2]
        rfl⟩
      refine (Evl.eu_tup (Evl.ea_cons (Evl.ev_var rfl) (Evl.ea_cons (Evl.ev_var rfl) Evl.ea_nil)) (by show 2 ≤ 100000; decide)) H7 (Evl.Ex.refl _) _ fun A H8 hA e8 h8 => ?_
      refine qy _ hRd A H8 ((e16.trans e7).trans e8) ⟨S, N, h8, e8 _ _ (e7 _ _ hS6), rs, e8 _ _ (e7 _ _ hN), by rw [rl]; exact hnl.symm, fun i r q' a b => e8 _ _ (e7 _ _ ?_)⟩
      have hi : i < near.length := by
        rcases Nat.lt_or_ge i near.length with z | z
        · exact z
        · rw [List.getElem?_eq_none z] at b; cases b
      have := rat i r a
      obtain ⟨_, y2, y3⟩ := each i hi
      rw [y2, y3] at this
      rw [List.getElem?_eq_getElem hi] at b
      obtain rfl := Option.some.inj b
      exact this
    · refine qn (fun L hL => pd_not hb ?_) H7 (e16.trans e7)
      have e := rd_sv hL
      rw [esv, hsl] at e
      obtain ⟨e1', e2', e3'⟩ := seat_eq (congrArg some e)
      have hnl : m = L.near.length := hm.symm.trans (rd_gn hL)
      rw [e1', e2', e3']
      refine ⟨L.near, congrArg some (List.ext_getElem (by rw [List.length_map, List.length_map, List.length_range, hnl]) fun i a b => ?_), hL.1.near⟩
      have hi : i < L.near.length := by simpa using b
      have hg := rd_grp hL hi
      rw [hgG i (by omega)] at hg
      have hg : [("/" : Str), (G i).1, (G i).2] = [("/" : Str), dS L.near[i].1, sS L.near[i].2] := hg
      obtain ⟨_, hg⟩ := List.cons.inj hg
      obtain ⟨y1, hg⟩ := List.cons.inj hg
      obtain ⟨y2, _⟩ := List.cons.inj hg
      have hq := (hL.1.near.each _ (List.getElem_mem hi)).1
      rw [List.getElem_map, List.getElem_map, List.getElem_range, y1, y2, num_dS _ (by omega)]
      rfl
end
end P60
end S_Ki
section S_Wi
/-! a lambda with one parameter, its default a constant, handed to a def that calls it without arguments -/
namespace LamX
open PySem PySem.Spec PyProof.Rows L2
/-- the function object of such a lambda: dv its defaults -/
abbrev dfFd (q : Str) (ps : Arguments) (bd : Expr) (sc : Scope) (cl : List (Str × Addr)) (dv pm cv ct : Value) : FuncData :=
  { PySem.W.kla_fn "<lambda>" q ps bd sc cl pm cv ct with defaults := dv }
abbrev dfObj (fd : FuncData) : Obj := { cls := .type "function", data := .func fd }
abbrev dfTup (v : Value) : Obj := { cls := .type "tuple", data := .seq #[v] }
abbrev dfArgs (x : Str) (ap : Pos) (e : Expr) : Arguments := { posonlyargs := [], args := [{ arg := x, annotation := none, pos := ap }], vararg := none, kwonlyargs := [], kw_defaults := [], kwarg := none, defaults := [e] }
section
variable {M : Model} {A : Around} {E : Value → Shared → Prop} {s : Shared} {q : Str} {ap : Arguments} {bd : Expr} {sc : Scope} {env : Env} {c P : Addr} {tr : Array Value} {pos : Pos} {fl : Nat} {mg : Str → Option Value}
  {cl : List (Str × Addr)} {dv : Value} {Q : Value → Shared → Prop}
theorem clo_tup {its : List Value} {b : Bool} {jp : Value → Sem Value} (h : ∀ (v : Value) (hh : Heap), (∀ a o, s.heap.get? a = some o → hh.get? a = some o) → s.heap.objs.size ≤ hh.objs.size → wpAny M A (jp v) Q E { s with heap := hh }) :
    wpAny M A (if b = true then pure Value.none >>= jp else newTextTuple its >>= jp) Q E s := by
  cases b with
  | true => exact wpAny_bind (wpAny_pure (h .none s.heap (fun _ _ e => e) (Nat.le_refl _)))
  | false => exact wpAny_bind (wpAny_newTextTuple (h _ _ (fun _ _ e => Heap.get?_push_of_some _ e) (by rw [Heap.size_push]; omega)))
/-- the object is made: its code object is new -/
theorem df_miss (h1 : closureFor sc env = pure cl) (h2 : env.globals = mainGlobals) (h3 : s.heap.Ns mainGlobals mg) (h4 : env.code = .ref c) (h5 : PySem.W.CodeHd s.heap c P) (h6 : s.heap.get? P = some (PySem.W.tabObj tr)) (h7 : TriplesOk tr.toList)
    (h8 : codeAmong pos tr.toList = none) (h9 : mainGlobals ≠ P) (hb : s.heap.BuiltinsAt mg P)
    (k : ∀ c' ct hh tk, Heap.ExtBut P s.heap hh → s.heap.objs.size ≤ c' → c' < hh.objs.size → hh.CodeRec (.ref c') q → hh.get? P = some (PySem.W.tabObj (tr ++ #[rawInt pos.line, rawInt pos.col, .ref c'])) →
      Q (.ref hh.objs.size) { s with heap := hh.push (dfObj (dfFd q ap bd sc cl dv ((mg "__name__").getD .none) (.ref c') ct)), toks := tk }) : wpAny M A (makeTail "<lambda>" q ap (.expr bd) sc env dv .none none pos fl) Q E s := by
  obtain ⟨bm, ob, b1, b2, _, b3, b4, b5, b6, b7⟩ := hb
  unfold makeTail
  rw [h1, h2]
  refine wpAny_bind (wpAny_pure ?_)
  refine clo_tup fun ct h0 k0 sz => ?_
  refine wpAny_bind (wpAny_functionCodeX h4 ((h5.keeps k0).code (k0 _ _ h6) h7) ((h5.keeps k0).tab (k0 _ _ h6)) h8 fun c' hh tk hx ge lt _ hrec htb _ => ?_)
  have g' := (h3.keeps k0).extBut hx h9
  have x' : Heap.ExtBut P s.heap hh := fun b o n e => hx b o n (k0 b o e)
  refine wpAny_bind (wpAny_builtinsFor g' b1 b2 (x' _ _ b3 b4) b5 b6 b7 (wpAny_bind (wpAny_nsGet g' ?_)))
  exact wpAny_bind (wpAny_pure (wpAny_newObj_type (k c' ct hh tk x' (Nat.le_trans sz ge) lt hrec htb.2) (by size_fits)))
/-- its code object stands in the table -/
theorem df_hit {cv : Value} (h1 : closureFor sc env = pure cl) (h2 : env.globals = mainGlobals) (h3 : s.heap.Ns mainGlobals mg) (h4 : env.code = .ref c) (h5 : PySem.W.CodeHd s.heap c P) (h6 : s.heap.get? P = some (PySem.W.tabObj tr)) (h7 : TriplesOk tr.toList)
    (h8 : codeAmong pos tr.toList = some cv) (hb : s.heap.BuiltinsAt mg P)
    (k : ∀ (ct : Value) (hh : Heap) (tk : Tok), (∀ a o, s.heap.get? a = some o → hh.get? a = some o) → s.heap.objs.size ≤ hh.objs.size → Q (.ref hh.objs.size) { s with heap := hh.push (dfObj (dfFd q ap bd sc cl dv ((mg "__name__").getD .none) cv ct)), toks := tk }) :
    wpAny M A (makeTail "<lambda>" q ap (.expr bd) sc env dv .none none pos fl) Q E s := by
  obtain ⟨bm, ob, b1, b2, _, b3, b4, b5, b6, b7⟩ := hb
  unfold makeTail
  rw [h1, h2]
  refine wpAny_bind (wpAny_pure ?_)
  refine clo_tup fun ct h0 k0 sz => ?_
  refine wpAny_bind (wpAny_functionCode_hit h4 ((h5.keeps k0).code (k0 _ _ h6) h7) h8 ?_)
  refine wpAny_bind (wpAny_builtinsFor (h3.keeps k0) b1 b2 (k0 _ _ b4) b5 b6 b7 (wpAny_bind (wpAny_nsGet (h3.keeps k0) ?_)))
  exact wpAny_bind (wpAny_pure (wpAny_newObj_type (k ct h0 s.toks k0 sz) (by size_fits)))
end
section
variable {X : Cx} {pins : List (Addr × Obj)} {σ : L2.St} {H : Hp} {s : Shared}
/-- the whole making -/
theorem lam_makeD {T : List (Addr × Str)} {c P : Addr} {x : Str} {ap : Pos} {e : Expr} {bd : Expr} {sc : Scope} {pos : Pos} {E : Value → Shared → Prop} {Q : Value → Shared → Prop} (I : Inv X pins σ H s) (TB : TabB X.base X.mg c P) (hcode : X.env.code = .ref c) (he : e.isPlainConst = true)
    (hm : (P, X.env.qual ++ "<lambda>") ∈ T) (hu : ∀ p ∈ T, p.1 = P → p.2 = X.env.qual ++ "<lambda>") (hT : Tabs T H) (hfree : ∀ y ∈ sc.names, y.2 = .free → ∃ c, X.env.cells.lookup y.1 = some c)
    (k : ∀ (f c' d : Addr) (v pm ct : Value) (H1 : Hp) (s' : Shared), Inv X pins σ H1 s' → ExtN H H1 → Tabs T H1 → s'.heap.get? f = some (dfObj (dfFd (X.env.qual ++ "<lambda>") (dfArgs x ap e) bd sc (cloFrom X.env.cells sc.names []) (.ref d) pm (.ref c') ct)) →
      s'.heap.get? d = some (dfTup v) → H1 f = none → H1 d = none → f ∉ frs X.stack → d ∉ frs X.stack → H1 c' = some (CodeO c' (X.env.qual ++ "<lambda>")) → Q (.ref f) s') :
    wpAny (model X.prog X.w) X.A (eval (.Lambda (dfArgs x ap e) bd sc pos) X.env) Q E s := by
  obtain ⟨tr, hP, ht, ha⟩ := hT _ hm
  rw [arm_eval_Lambda]
  show wpAny (model X.prog X.w) X.A (do let dv ← evalAll (evalEach [e] X.env); let kdv ← holding dv (evalAllOpt []); makeFunction "<lambda>" (X.env.qual ++ "<lambda>") (dfArgs x ap e) (.expr bd) sc X.env dv kdv [] pos pos.line) Q E s
  refine wpAny_bind (wpAny_evalAll_consts [e] s _ (fun z hz => by rw [List.mem_singleton.mp hz]; exact he) fun vs tk cv => ?_)
  obtain ⟨v, rfl⟩ : ∃ v, vs = [v] := by
    match vs, cv with
    | [v], _ => exact ⟨v, rfl⟩
    | _ :: _ :: _, cv => exact cv.2.elim
  refine wpAny_bind (wpAny_holding (wpAny_pure ?_))
  rw [makeFunction_eq]
  simp only [List.zip_nil_left, List.filterMap_nil, List.isEmpty_nil, List.isEmpty_cons, if_true, if_false, Bool.false_eq_true, pure_bind]
  refine wpAny_bind (wpAny_newTextTuple ?_)
  have nofr : ∀ f, s.heap.objs.size ≤ f → f ∉ frs X.stack := fun f hf z => by
    rcases List.mem_cons.mp (I.stkSub _ z) with e' | e'
    · have w := I.lt
      rw [← e'] at w
      exact Nat.lt_irrefl _ (Nat.lt_of_lt_of_le w hf)
    · exact I.nofs hf e'
  have hd : H s.heap.objs.size = none := I.hok.fresh (Nat.le_refl _)
  have dP : s.heap.objs.size ≠ P := fun z => by rw [z, hP] at hd; cases hd
  have I0 : Inv X pins σ H { s with heap := s.heap.push (dfTup v), toks := tk } := I.kept fun b o z => Heap.get?_push_of_some _ z
  have d0 : (s.heap.push (dfTup v)).get? s.heap.objs.size = some (dfTup v) := Heap.get?_push_size _ rfl
  have sz0 : s.heap.objs.size ≤ (s.heap.push (dfTup v)).objs.size := by rw [Heap.size_push]; omega
  have bP : (s.heap.push (dfTup v)).BuiltinsAt X.mg P := TB.bm.keeps I0.bk
  have hP' : (s.heap.push (dfTup v)).get? P = some { cls := .none, data := .fields tr } := I0.hok P _ hP
  cases hc : codeAmong pos tr.toList with
  | none =>
    refine df_miss (s := { s with heap := s.heap.push (dfTup v), toks := tk }) (mg := X.mg) (c := c) (P := P) (tr := tr) (closure_ok hfree) I.ok.glob (I.mod.glob.keeps I0.bk) hcode (TB.code.keeps I0.bk) hP' ht hc TB.gP bP fun c' ct hh tk' hx ge lt hrec htb => ?_
    obtain ⟨c2, oc, vs, t, e2, hoc, hdt, hv⟩ := hrec
    cases e2
    have ge' : (s.heap.push (dfTup v)).objs.size ≤ c' := ge
    have nC : H c' = none := I.hok.fresh (Nat.le_trans sz0 ge')
    have szh : (s.heap.push (dfTup v)).objs.size ≤ hh.objs.size := Nat.le_trans ge' (Nat.le_of_lt lt)
    have dc : s.heap.objs.size ≠ c' := fun z => by rw [← z, Heap.size_push] at ge'; omega
    have df : s.heap.objs.size ≠ hh.objs.size := fun z => by rw [← z, Heap.size_push] at szh; omega
    have I1 := inv_table (t' := tk') (more := #[rawInt pos.line, rawInt pos.col, .ref c']) (h' := hh.push (dfObj (dfFd (X.env.qual ++ "<lambda>") (dfArgs x ap e) bd sc (cloFrom X.env.cells sc.names []) (.ref s.heap.objs.size) ((X.mg "__name__").getD .none) (.ref c') ct))) I0 hP
      (fun b o hb z => Heap.get?_push_of_some _ (hx b o hb z)) (Heap.get?_push_of_some _ htb) ge ⟨oc, vs, t, Heap.get?_push_of_some _ hoc, hdt, hv⟩
    have hE : ExtN H (upd (upd H P (.tbl (tr ++ #[rawInt pos.line, rawInt pos.col, .ref c']))) c' (CodeO c' (X.env.qual ++ "<lambda>"))) := fun b o z n => by
      have bP' : b ≠ P := fun y => n tr (Option.some.inj (z.symm.trans (by rw [y]; exact hP)))
      rw [upd_ne (ne_of_none z nC), upd_ne bP']
      exact z
    have eL : (tr ++ #[rawInt pos.line, rawInt pos.col, .ref c']).toList = tr.toList ++ [rawInt pos.line, rawInt pos.col, .ref c'] := by simp
    have off : ∀ {b : Addr}, b ≠ c' → b ≠ P → H b = none → upd (upd H P (.tbl (tr ++ #[rawInt pos.line, rawInt pos.col, .ref c']))) c' (CodeO c' (X.env.qual ++ "<lambda>")) b = none := fun n1 n2 n3 => by rw [upd_ne n1, upd_ne n2]; exact n3
    refine k hh.objs.size c' s.heap.objs.size v ((X.mg "__name__").getD .none) ct _ _ I1 hE (fun p hp => ?_) (Heap.get?_push_size _ rfl) (Heap.get?_push_of_some _ (hx _ _ dP d0)) (off (Nat.ne_of_gt lt) (Nat.ne_of_gt (Nat.lt_of_lt_of_le (Heap.lt_size hP') szh)) (I.hok.fresh (Nat.le_trans sz0 szh))) (off dc dP hd) (nofr _ (Nat.le_trans sz0 szh)) (nofr _ (Nat.le_refl _)) upd_same
    by_cases hb : p.1 = P
    · rw [hu p hp hb, hb]
      refine ⟨_, by rw [upd_ne (ne_of_none hP nC), upd_same], by rw [eL]; exact PySem.TriplesOk_snoc _ _ _ _ ht, fun p' cv' hcv => ?_⟩
      rw [eL] at hcv
      rcases among_app _ ht hcv with z | z
      · obtain ⟨c0, y1, y2⟩ := ha p' cv' z
        exact ⟨c0, y1, hE _ _ y2 codeO_ne⟩
      · exact ⟨c', z, upd_same⟩
    · obtain ⟨tr2, a1, a2, a3⟩ := hT p hp
      refine ⟨tr2, by rw [upd_ne (ne_of_none a1 nC), upd_ne hb]; exact a1, a2, fun p' cv' hcv => ?_⟩
      obtain ⟨c0, y1, y2⟩ := a3 p' cv' hcv
      exact ⟨c0, y1, hE _ _ y2 codeO_ne⟩
  | some cv =>
    obtain ⟨c', y, hco⟩ := ha pos cv hc
    subst y
    refine df_hit (s := { s with heap := s.heap.push (dfTup v), toks := tk }) (mg := X.mg) (c := c) (P := P) (tr := tr) (closure_ok hfree) I.ok.glob (I.mod.glob.keeps I0.bk) hcode (TB.code.keeps I0.bk) hP' ht hc bP fun ct hh tk' hx szh => ?_
    have I1 : Inv X pins σ H { s with heap := hh.push (dfObj (dfFd (X.env.qual ++ "<lambda>") (dfArgs x ap e) bd sc (cloFrom X.env.cells sc.names []) (.ref s.heap.objs.size) ((X.mg "__name__").getD .none) (.ref c') ct)), toks := tk' } := I0.kept fun b o z => Heap.get?_push_of_some _ (hx b o z)
    exact k hh.objs.size c' s.heap.objs.size v ((X.mg "__name__").getD .none) ct H _ I1 (ExtN.refl H) hT (Heap.get?_push_size _ rfl) (Heap.get?_push_of_some _ (hx _ _ d0)) (I.hok.fresh (Nat.le_trans sz0 szh)) hd (nofr _ (Nat.le_trans sz0 szh)) (nofr _ (Nat.le_refl _)) hco
end
/-- its names: the parameter x alone is its own -/
structure LamSD (sc scope : Scope) (x : Str) : Prop where
  kind : scope.kind = .function
  co : scope.isCoroutine = false
  gen : scope.isGenerator = false
  own : ∀ y ∈ scope.names, (y.2 = .local → y.1 = x) ∧ y.2 ≠ .cell
  loc : scope.names.lookup x = some .local
  free : ∀ y ∈ scope.names, y.2 = .free → sc.names.lookup y.1 = some .cell ∨ sc.names.lookup y.1 = some .free
def lamSDB (sc scope : Scope) (x : Str) : Bool :=
  decide (scope.kind = .function) && (!scope.isCoroutine && (!scope.isGenerator && (decide (scope.names.lookup x = some .local) && scope.names.all fun y => (!decide (y.2 = .local) || decide (y.1 = x)) && (!decide (y.2 = .cell) && (!decide (y.2 = .free) || (decide (sc.names.lookup y.1 = some .cell) || decide (sc.names.lookup y.1 = some .free)))))))
theorem lamSD_by {sc scope : Scope} {x : Str} (h : lamSDB sc scope x = true) : LamSD sc scope x := by
  unfold lamSDB at h
  simp only [Bool.and_eq_true, Bool.or_eq_true, Bool.not_eq_true', decide_eq_true_eq, decide_eq_false_iff_not, List.all_eq_true] at h
  obtain ⟨a1, a2, a3, a4, a5⟩ := h
  exact ⟨a1, a2, a3, fun y hy => ⟨fun e => (a5 y hy).1.elim (fun n => absurd e n) id, (a5 y hy).2.1⟩, a4, fun y hy e => (a5 y hy).2.2.elim (fun n => absurd e n) id⟩
theorem LamSD.has {X : Cx} {scope : Scope} {x : Str} (L : LamSD X.env.scope scope x) (ok : X.Ok) : ∀ y ∈ scope.names, y.2 = .free → ∃ c, X.env.cells.lookup y.1 = some c := fun y hy e =>
  (L.free y hy e).elim (fun z => ok.has _ (.inl z)) fun z => ok.has _ (.inr z)
section
variable {X : Cx} {pins : List (Addr × Obj)} {σ : L2.St} {H HZ : Hp} {s s1 : Shared}
theorem lam_startD {A : Around} {outer : List Env} {E : XK} {scope : Scope} {f c' : Addr} {h₁ : Heap} {tk : Nat} {x : Str} {v : Value} (I : Inv X pins σ H s) (L : LamSD X.env.scope scope x) (hx : x ∉ X.N) (z0 : Env0 X.prog X.w X.K X.mg X.base A outer s1 HZ) (z1 : A.handled = none)
    (un : Un (frs X.stack) [] H HZ s.heap s1.heap) (ns : h₁.Ns s1.heap.objs.size fun y => ([(x, v)] : List (Str × Value)).reverse.lookup y) (kp : ∀ b o, s1.heap.get? b = some o → h₁.get? b = some o) :
    Inv (lamCx X A outer s1 HZ E scope f c') [] σ HZ { s1 with heap := h₁, toks := tk } := by
  have hfree := L.has I.ok
  have cm : ∀ {y c}, (cloFrom X.env.cells scope.names []).lookup y = some c → X.env.cells.lookup y = some c := fun {y c} e => by
    rcases cloFrom_mem (PySem.mem_of_lookup e) with m | ⟨m1, m2⟩
    · cases m
    · obtain ⟨c1, hc⟩ := hfree _ m1 rfl
      have hc : X.env.cells.lookup y = some c1 := hc
      obtain rfl : c = c1 := by rw [m2, hc] <;> rfl
      exact hc
  have look : ∀ {y}, scope.names.lookup y = some .free → ∃ c, (cloFrom X.env.cells scope.names []).lookup y = some c := fun {y} m =>
    mem_lookup (cloFrom_has (cells := X.env.cells) (acc := []) (show (y, NameKind.free) ∈ scope.names from PySem.mem_of_lookup m))
  have cellK : ∀ {c : Addr} {u : Option Value}, H c = none → s.heap.IsCell c u → h₁.IsCell c u := fun {c u} n ⟨o, ho, hd⟩ => by
    obtain ⟨sl, w⟩ := un.any ho n (by simp)
    exact ⟨_, kp _ _ w, hd⟩
  have noA : ∀ b : Addr, b ∉ (lamCx X A outer s1 HZ E scope f c').ex := fun b m => absurd (show b ∈ ([] : List Addr) from m) (by simp)
  refine ⟨⟨z0.mod, L.kind, rfl, rfl, Nat.le_refl _, fun y m c e1 e2 => I.ok.inj y m c (cm e1) (cm e2), fun y hy => ?_, fun y c m _ => ?_, fun _ => z1, Around.frames_deeper z0.frames, .inr ⟨rfl, rfl⟩, fun b m => absurd m (noA b), z0.bs, z0.bsz, fun b _ _ => noA b,
      fun b m => absurd m (noA b), z0.funs, z0.frf⟩,
    rfl, z0.bare, Un.kept kp, ⟨_, ns, fun i y u e1 e2 e3 => ?_⟩, fun y c e => ?_, z0.hok.fresh (Nat.le_refl _), fun y c e => ?_, fun p hp => absurd (show p ∈ ([] : List (Addr × Obj)) ++ [] from hp) (by simp), z0.hok.kept kp, I.len⟩
  · have hy : scope.names.lookup y = some .cell ∨ scope.names.lookup y = some .free := hy
    exact hy.elim (fun m => absurd rfl (L.own _ (PySem.mem_of_lookup m)).2) look
  · cases (show false = true from m)
  · have e1' : X.N[i]? = some y := e1
    have e3 : Vis scope y := e3
    rcases e3 with m | m | m
    · have m' := (L.own _ (PySem.mem_of_lookup m)).1 rfl
      exact absurd (m' ▸ List.mem_of_getElem? e1') hx
    · exact absurd rfl (L.own _ (PySem.mem_of_lookup m)).2
    · obtain ⟨mm, hn, hl⟩ := I.loc
      have vis : Vis X.env.scope y := (L.free _ (PySem.mem_of_lookup m) rfl).elim (fun m => .inr (.inl m)) (fun m => .inr (.inr m))
      obtain ⟨u', r, w⟩ := hl i y u e1 e2 vis
      obtain ⟨c2, m2⟩ := look m
      refine ⟨u', r, .inr ⟨.inr m, c2, m2, ?_⟩⟩
      have c1 := cm m2
      rcases w with ⟨k', _⟩ | ⟨_, c3, e', w⟩
      · have k' : X.env.scope.names.lookup y = some .local := k'
        rcases L.free _ (PySem.mem_of_lookup m) rfl with k2 | k2 <;> rw [show X.env.scope.names.lookup y = _ from k2] at k' <;> cases k'
      · rw [c1] at e'
        cases e'
        exact cellK (I.freeC y _ c1) w
  · obtain ⟨u', w⟩ := I.cell y c (cm e)
    exact ⟨u', cellK (I.freeC y c (cm e)) w⟩
  · obtain ⟨u, o, ho, hd⟩ := I.cell y c (cm e)
    exact un.free c o ho (I.freeC y c (cm e)) (by simp)
/-- how the call without arguments binds -/
def BindsD (x : Str) (ps : Arguments) (bd : Expr) (sc : Scope) : Prop := ∀ (q : Str) (cl : List (Str × Addr)) (d : Addr) (v pm cv ct : Value), ∃ k, bindArgs (dfFd q ps bd sc cl (.ref d) pm cv ct) ⟨[], []⟩ = seqItems? (.ref d) >>= k ∧ k (some #[v]) = pure [(x, v)]
theorem pe_actD {CXg : CXT} {Eg : XK} {Ng : List Str} {qg : Str} {sg : Scope} {g f c' d : Addr} {cdg pm ct v : Value} {ps : Arguments} {bd : Expr} {scope : Scope} {k i : Nat} {a x : Str} {pn : List (Addr × Obj)} {xe : Value → Shared → Prop} {W : WX} {E : XK} {tb : TE} {p1 p2 : Pos}
    (I : Inv X pins σ H s) (L : LamSD X.env.scope scope x) (hx : x ∉ X.N) (hf : s.heap.get? f = some (dfObj (dfFd (X.env.qual ++ "<lambda>") ps bd scope (cloFrom X.env.cells scope.names []) (.ref d) pm (.ref c') ct))) (hdv : s.heap.get? d = some (dfTup v)) (nf : H f = none) (nd : H d = none) (ff : f ∉ frs X.stack) (fd : d ∉ frs X.stack)
    (hbind : BindsD x ps bd scope)
    (tk : Takes ((cxOf CXg X.prog X.w X.K X.mg X.base Ng qg sg g cdg X.A X.stack s H Eg).tr pn xe) W) (hW : ∀ cls d σ' H', E cls d H' → W cls d σ' H') (hr : Room (k + 1) (X.A.deeper (envOfC qg sg s.heap.objs.size g cdg)))
    (hbody : ∀ (A : Around) (outer : List Env) (s : Shared) (H : Hp), Room k (A.deeper (lamEnv X scope s.heap.objs.size f c')) → PE (lamCx X A outer s H E scope f c') bd tb)
    (hN : Ng[i]? = some a) (hv : Vis sg a) (hd : (a == ("__debug__" : Str)) = false := by decide) (hcd : (a == ("__classdict__" : Str)) = false := by decide) :
    PE ((cxOf CXg X.prog X.w X.K X.mg X.base Ng qg sg g cdg X.A X.stack s H Eg).tr pn xe) (.Call (.Name a p1) [] [] p2)
      (fun σZ HZ Q => σZ[i]? = some (some (.ref f)) ∧ HZ c' = some (CodeO c' (X.env.qual ++ "<lambda>")) ∧ tb σ HZ Q) := by
  refine ⟨fun pinsZ sZ σZ HZ Q IZ ⟨hs, hc, ht⟩ => ?_⟩
  refine wpAny_Call_Name_kw (thn ((pe_var (pos := p1) (i := i) hN hv hd hcd).run pinsZ sZ σZ HZ (fun u H1 => u = .ref f ∧ H1 = HZ) IZ ⟨.ref f, hs, rfl, rfl⟩) fun u s1 ⟨u', H1, I1, r1, w1⟩ => ?_)
  obtain ⟨w1, w2⟩ := w1
  subst w1
  rw [w2] at I1
  obtain rfl : u = Value.ref f := r1
  have noX : ∀ b : Addr, b ∉ ([] : List Addr) := fun b z => nomatch z
  have of1 : s1.heap.get? f = some (dfObj (dfFd (X.env.qual ++ "<lambda>") ps bd scope (cloFrom X.env.cells scope.names []) (.ref d) pm (.ref c') ct)) := I1.base.keep f _ hf nf ff (noX f)
  have od1 : s1.heap.get? d = some (dfTup v) := I1.base.keep d _ hdv nd fd (noX d)
  refine PySem.W.callWith_F0 ⟨_, _, _, _, of1⟩ ?_
  have un : Un (frs X.stack) [] H HZ s.heap s1.heap := I1.base
  obtain ⟨⟨oc, vs, t, o1, o2, o3⟩, _, _⟩ := I1.hok c' _ hc
  obtain ⟨kb, bk1, bk2⟩ := hbind (X.env.qual ++ "<lambda>") (cloFrom X.env.cells scope.names []) d v pm (.ref c') ct
  have rc : codeAny (model X.prog X.w) (X.A.deeper (envOfC qg sg s.heap.objs.size g cdg)) (.call (.ref f) ⟨[], []⟩) (CR (L2.CX X.prog X.w) (envOfC qg sg s.heap.objs.size g cdg :: X.stack) X.prog X.w HZ s1 Q E) s1 := by
    refine PySem.W.kla_callFunE hr.depth of1 rfl L.co L.gen rfl ⟨c', oc, vs, t, rfl, o1, o2, o3⟩ ?_
    rw [bk1]
    refine wpAny_bind (wpAny_seqItems od1 rfl ?_)
    rw [bk2]
    refine wpAny_pure (wpAny_newFunctionEnv (fun y hy => (L.own y hy).2) (fun y hy => by rw [List.mem_singleton.mp hy]; exact L.loc) (fun h₁ hns hsb => ⟨I1.nolimit.fresh _ hsb, ?_⟩) L.kind)
    show codeAny _ _ (.expr bd (lamEnv X scope s1.heap.objs.size f c')) _ _
    have kp : ∀ b o, s1.heap.get? b = some o → h₁.get? b = some o := fun b o z => hsb.extBut b o (Nat.ne_of_lt (Heap.lt_size z)) (Heap.get?_push_of_some _ z)
    have J : Inv (lamCx X (X.A.deeper (envOfC qg sg s.heap.objs.size g cdg)) (envOfC qg sg s.heap.objs.size g cdg :: X.stack) s1 HZ E scope f c') [] σ HZ { s1 with heap := h₁, toks := s1.toks + ([(x, v)] : List (Str × Value)).length } :=
      lam_startD I L hx I1.env0 hr.hd un hns kp
    refine PySem.W.kla_codeExpr (wpAny_mono ((hbody _ _ s1 HZ (hr.deeper _)).run [] _ _ HZ Q J ht) (fun u s' hq => ?_) fun z s' hq => hq)
    obtain ⟨w', H', J', rv, q⟩ := hq
    exact ⟨w', H', J'.os, J'.bare, J'.base, J'.hok, rv, q⟩
  have hxp : Passes (L2.CX X.prog X.w) ((cxOf CXg X.prog X.w X.K X.mg X.base Ng qg sg g cdg X.A X.stack s H Eg).tr pn xe) E := passes_call tk hW
  refine wpAny_call (codeAny_mono rc fun r s' hq => ?_)
  match r, hq with
  | .error z, hq => exact hxp pinsZ σZ HZ s1 z s' I1 hq
  | .ok (.ret u), hq => exact I1.after hq
  | .ok .next, hq => exact hq.elim
  | .ok .brk, hq => exact hq.elim
  | .ok .cont, hq => exact hq.elim
end
section
variable {X : Cx}
/-- g(lambda x=const: body) -/
theorem pe_lamcallD {T : List (Addr × Str)} {TT : (XK → Hp → VK → Prop) → Hp → VK → Prop} {gn a x : Str} {g c P : Addr} {k : Nat} {pg : Arguments} {bg : List Stmt} {sg : Scope} {dV kV doc pm cdv ct oc : Value} {an od : Option Addr} {osl : Array (Option Value)} {Ng : List Str}
    {ap : Pos} {e bd : Expr} {scope : Scope} {t : XK → TE} {p lpos pos : Pos} (hg : Gl X gn) (hm : X.mg gn = some (.ref g)) (hk : PySem.W.keepIn X.K (.ref g) = true)
    (lk : X.K.lookup g = some ⟨oc, od, .func (PySem.W.fnOf gn gn pg bg sg dV kV doc pm an cdv ct), osl⟩) (hcg : PySem.W.codeIn X.K cdv gn = true) (hb : L2.Binds X.K (PySem.W.fnOf gn gn pg bg sg dV kV doc pm an cdv ct) [a] []) (Sg : FnScope Ng [a] sg) (hNg : Ng[0]? = some a) (hva : Vis sg a)
    (hG : GivesTo X Ng gn sg g cdv bg a (X.env.qual ++ "<lambda>") TT)
    (TB : TabB X.base X.mg c P) (hcode : X.env.code = .ref c) (hmT : (P, X.env.qual ++ "<lambda>") ∈ T) (hu : ∀ p ∈ T, p.1 = P → p.2 = X.env.qual ++ "<lambda>") (hr : Room (k + 2) X.A) (L : LamSD X.env.scope scope x) (hx : x ∉ X.N) (he : e.isPlainConst = true)
    (hbind : BindsD x (dfArgs x ap e) bd scope)
    (hbody : ∀ (A : Around) (outer : List Env) (s : Shared) (H : Hp) (E : XK) (f c' : Addr), Room k (A.deeper (lamEnv X scope s.heap.objs.size f c')) → PE (lamCx X A outer s H E scope f c') bd (t E))
    (hdb : (gn == ("__debug__" : Str)) = false := by decide) (hd : (a == ("__debug__" : Str)) = false := by decide) (hcd : (a == ("__classdict__" : Str)) = false := by decide) :
    PE X (.Call (.Name gn p) [.Lambda (dfArgs x ap e) bd scope lpos] [] pos) (tLam T TT t) := by
  refine ⟨fun pins s σ H Q I ⟨hT, h⟩ => ?_⟩
  refine wpAny_Call_Name_kw (ld_glob I hg hm ?_ hdb)
  refine PySem.W.callWith_K (h₀ := X.base) I.ok.mod.kin hk ?_ (by rfl) (by rfl)
  show wpAny _ _ (spliced ((false, eval (.Lambda (dfArgs x ap e) bd scope lpos) X.env) :: backTo pos (starEach [] X.env))) _ _ s
  refine Calls.spliced_cons (lam_makeD I TB hcode he hmT hu hT (L.has I.ok) fun f c' d v pm' ctv H1 s' I1 eN T1 hf hdv nf nd ff fd hco => ?_)
  refine Calls.spliced_nil ⟨I1.kIn, ?_⟩
  have rc : codeAny (model X.prog X.w) X.A (.call (.ref g) ⟨[.ref f], []⟩) (CR C8.CX0 X.stack X.prog X.w H1 s' Q C8.E0) s' := by
    refine run_ofS (N := Ng) (ps := [a]) (us := [.ref f]) (vs := [.ref f]) lk hcg Sg hr I1.env0 (hb s' [.ref f] I1.kIn rfl) (.cons rfl .nil) rfl fun hr' => ?_
    obtain ⟨t', ht', hq'⟩ := hG f c' s' H1 Q (fun E H' Q' => t E σ H' Q') (fun W pn xe E p1 p2 tk hW => pe_actD (i := 0) I1 L hx hf hdv nf nd ff fd hbind tk hW hr' (fun A outer s H hr2 => hbody A outer s H E f c' hr2) hNg hva hd hcd) hco (h H1 eN T1)
    exact ⟨t', ht'.nox, hq'⟩
  refine wpAny_call (codeAny_mono rc fun r s2 hq => ?_)
  match r, hq with
  | .error z, hq => exact (show False from hq).elim
  | .ok (.ret u), hq => exact I1.after hq
  | .ok .next, hq => exact hq.elim
  | .ok .brk, hq => exact hq.elim
  | .ok .cont, hq => exact hq.elim
end
end LamX
end S_Wi
section S_Wk
namespace Hk
open PySem PySem.Spec PyProof.Rows L2 LamX Tl
/-- caught = None / try: ask() / except E as error: caught = error / rest -/
def THeardS (K : PySem.W.Frag) (CS : Addr) (tr : TS) : (XK → Hp → VK → Prop) → Hp → VK → Prop := fun tl H Q => ∀ f : Addr,
  tl (fun cls d H' => PySem.W.exmOne K cls (.ref CS) = some true ∧ ∀ a, H' a = none → ∀ σ' : L2.St, σ'.length = 3 → σ'[1]? = some (some (.ref a)) → tr { nx := fun _ G => Q .non G, rt := Q } σ' (upd H' a (ErrAt cls d a))) H
    fun _ H' => tr { nx := fun _ G => Q .non G, rt := Q } [some (.ref f), some .non, none] H'
theorem heard_givesS {X : Cx} {x e q : Str} {sg : Scope} {g CS : Addr} {cdg : Value} {j : Nat} {rest : List Stmt} {tr : TS} {p1 p2 p3 p4 p5 p6 p7 p8 p9 r1 r2 r3 : Pos} (Sg : FnScope nAsk ["ask"] sg) (k1 : sg.names.lookup ("caught" : Str) = some NameKind.local) (k2 : sg.names.lookup ("error" : Str) = some NameKind.local)
    (hge : sg.names.lookup e = some .globalImplicit) (hme : X.mg e = some (.ref CS)) (hde : (e == ("__debug__" : Str)) = false)
    (hrt : ∀ (A : Around) (s : Shared) (H : Hp), PSs (cxA X x sg g cdg A s H) rest tr) :
    GivesTo X nAsk x sg g cdg (.Assign [.Name "caught" p1] (.Constant .none j p2) p3 :: .Try [.Expr (.Call (.Name "ask" r1) [] [] r2) r3] [.ExceptHandler (some (.Name e p4)) (some "error") [.Assign [.Name "caught" p5] (.Name "error" p6) p7] p8] [] [] p9 :: rest) "ask" q (THeardS X.K CS tr) := by
  intro f c' s H Q tl act hc h
  have gE : Gl (cxA X x sg g cdg X.A s H) e := hge
  have l1 : ∀ {Y : Cx}, Y.env.scope = sg → (Y.fn "caught" = true ∨ Y.env.scope.names.lookup ("caught" : Str) = some NameKind.local) := fun z => .inr (by rw [z]; exact k1)
  refine ⟨_, pss_cons (ps_set (X := cxA X x sg g cdg X.A s H) (i := 1) Sg.nd rfl (Or.inl k1) pe_non rfl (l1 rfl)) (pss_cons (ps_keep (X := cxA X x sg g cdg X.A s H) (i := 2) (c := .ref CS) (ts := fun _ _ _ => tAsg (tVar 2) (gName 1))
      (tb := fun W D σ H => ∃ Ech : XK, (∀ cls d σ' H', Ech cls d H' → σ'.length = 3 → W cls d σ' H') ∧ σ[0]? = some (some (.ref f)) ∧ H c' = some (CodeO c' q) ∧ tl Ech H (fun _ H' => D.nx σ H'))
      rfl rfl rfl Sg.nd rfl k2 ⟨gE, hde, Or.inl hme⟩ (fun W pn xe tk _ => ?_) (fun a oe cls d pn _ _ => pss_one (ps_set (i := 1) Sg.nd rfl (Or.inl k1) (pe_var (i := 2) rfl (Or.inl k2)) rfl (l1 rfl)))) (hrt X.A s H)), ?_⟩
  · refine ⟨fun pins s' σ H' D I ⟨Ech, hW, h1, h2, h3⟩ => ?_⟩
    have hp := act (fun cls d σ H => σ.length = nAsk.length → W cls d σ H) pn xe Ech r1 r2 (takes_len tk) hW
    exact (pss_one (ps_expr (pos := r3) hp)).run pins s' σ H' D I ⟨h1, h2, h3⟩
  · have h' := h f
    refine ⟨fun cls d H' => PySem.W.exmOne X.K cls (.ref CS) = some true ∧ ∀ a, H' a = none → ∀ σ' : L2.St, σ'.length = 3 → σ'[1]? = some (some (.ref a)) → tr { nx := fun _ G => Q .non G, rt := Q } σ' (upd H' a (ErrAt cls d a)), ?_, rfl, hc, h'⟩
    rintro cls d σ' H' ⟨he, hk⟩ hl
    refine ⟨he, fun a na => ?_⟩
    exact ⟨.ref a, by rw [List.getElem?_set_self (by omega)] <;> rfl, fun na' => hk a na' _ (by simp [hl]) (by rw [List.getElem?_set_ne (by decide), List.getElem?_set_self (by simp [hl])] <;> rfl)⟩
/-! ### what stays while tables grow and the drawer draws -/
/-- H without its tables, and without what stands at t -/
def strip (t : Addr) (H : Hp) : Hp := fun a => if a = t then none else match H a with
  | some (.tbl _) => none
  | o => o
theorem strip_at {t a : Addr} {H : Hp} {o : HO} (h : H a = some o) (ht : a ≠ t) (hn : ∀ ps, o ≠ .tbl ps) : strip t H a = some o := by
  unfold strip
  rw [if_neg ht, h]
  split
  · rename_i ps e
    exact absurd (Option.some.inj e) (hn ps)
  · rfl
theorem strip_le {t a : Addr} {H : Hp} {o : HO} (h : strip t H a = some o) : a ≠ t ∧ H a = some o ∧ ∀ ps, o ≠ .tbl ps := by
  unfold strip at h
  by_cases z : a = t
  · rw [if_pos z] at h
    cases h
  · rw [if_neg z] at h
    refine ⟨z, ?_⟩
    split at h
    · cases h
    · rename_i hh
      refine ⟨h, fun ps e => ?_⟩
      rw [e] at h
      exact hh ps h
theorem strip_new {t a : Addr} {H : Hp} (h : H a = none) : strip t H a = none := by
  unfold strip
  split
  · rfl
  · rw [h]
theorem strip_ex {t : Addr} {H : Hp} : Evl.Ex (strip t H) H := fun a o h => (strip_le h).2.1
theorem strip_n {t : Addr} {H H' : Hp} (e : ExtN H H') : Evl.Ex (strip t H) H' := fun a o h => e a o (strip_le h).2.1 (strip_le h).2.2
theorem strip_nt {t : Addr} {H : Hp} : ∀ a ps, strip t H a ≠ some (.tbl ps) := fun a ps h => (strip_le h).2.2 ps rfl
/-- B, which holds no table, stands; so do the tables -/
structure Live (T : List (Addr × Str)) (B H : Hp) : Prop where
  ex : Evl.Ex B H
  nt : ∀ a ps, B a ≠ some (.tbl ps)
  tabs : Tabs T H
theorem Live.exN {T : List (Addr × Str)} {B H H' : Hp} (l : Live T B H) (e : ExtN H H') (t : Tabs T H') : Live T B H' := ⟨fun a o h => e a o (l.ex a o h) fun ps z => l.nt a ps (z ▸ h), l.nt, t⟩
theorem Live.go {T : List (Addr × Str)} {B H H' : Hp} (l : Live T B H) (e : Evl.Ex H H') : Live T B H' := ⟨l.ex.trans e, l.nt, l.tabs.ext e⟩
theorem Live.add {T : List (Addr × Str)} {B H : Hp} {p : Addr} {o : HO} (l : Live T B H) (h : H p = some o) (ho : ∀ ps, o ≠ .tbl ps) : Live T (upd B p o) H := ⟨fun a u e => by
  by_cases z : a = p
  · rw [z, upd_same] at e
    rw [z, h]
    exact e
  · rw [upd_ne z] at e
    exact l.ex a u e, fun a ps => by
  by_cases z : a = p
  · rw [z, upd_same]
    exact fun e => ho ps (Option.some.inj e)
  · rw [upd_ne z]
    exact l.nt a ps, l.tabs⟩
theorem Live.fresh {T : List (Addr × Str)} {B H : Hp} {p : Addr} (l : Live T B H) (h : H p = none) : B p = none := by
  cases e : B p with
  | none => rfl
  | some o =>
    have := l.ex p o e
    rw [h] at this
    cases this
section
variable {K : PySem.W.Frag} {σ : L2.St} {G : Hp}
theorem ev_isK {a D : Addr} {d : Option Addr} {fs : List (Str × V)} {c : Addr} {b : Bool} {i : Nat} (hσ : σ[i]? = some (some (.ref a))) (ha : G a = some (ErrAt (.ref D) d a)) (hd : DictAt G d fs) (E : ErrC K D) (hk : PySem.W.kitOne K (.ref D) (.ref c) = some b) :
    Evl.Ev (tCB (fun xs H Q => rIsi K xs H Q ∨ rIsK K xs H Q) (tCons (tVar i) (tCons (tC (.ref c)) tNil))) σ G (.bl b) := fun H1 e Q q =>
  ⟨.ref a, hσ, .inr ⟨a, D, d, fs, .ref c, .ref c, b, rfl, e _ _ ha, hd.imp fun x ⟨y, z⟩ => ⟨y, e _ _ z⟩, E, .own c, hk, q H1 (Evl.Ex.refl H1)⟩⟩
theorem ev_isNone {c : Addr} {b : Bool} {i : Nat} (hσ : σ[i]? = some (some .non)) (hk : PySem.W.kitOne K (.type "NoneType") (.ref c) = some b) :
    Evl.Ev (tCB (fun xs H Q => rIsi K xs H Q ∨ rIsK K xs H Q) (tCons (tVar i) (tCons (tC (.ref c)) tNil))) σ G (.bl b) := fun H1 e Q q =>
  ⟨.non, hσ, .inl ⟨.non, .ref c, .type "NoneType", .ref c, b, rfl, .own c, .base .non, hk, q H1 (Evl.Ex.refl H1)⟩⟩
theorem ev_keptF {a D : Addr} {d : Option Addr} {fs : List (Str × V)} {f : Str} {v : V} {i : Nat} (hσ : σ[i]? = some (some (.ref a))) (ha : G a = some (ErrAt (.ref D) d a)) (hd : DictAt G d fs) (E : ErrC K D) (hn : PySem.W.findIn K (.ref D) f = some none) (hl : fs.lookup f = some v) :
    Evl.Ev (tKeptF K f (tVar i)) σ G v := fun H1 e Q q => ⟨.ref a, hσ, a, D, d, fs, v, rfl, e _ _ ha, hd.imp fun x ⟨y, z⟩ => ⟨y, e _ _ z⟩, E, hn, hl, q H1 (Evl.Ex.refl H1)⟩
/-- a lambda heard that raises an error of the class D: a new tuple -/
theorem lam_raise {T : List (Addr × Str)} {CS D : Addr} {tr : TS} {t : XK → TE} {B H : Hp} {Q : VK} {fs : List (Str × V)} {vs : List V} (l : Live T B H) (hx : PySem.W.exmOne K (.ref D) (.ref CS) = some true)
    (ht : ∀ H1 E Q', Evl.Ex B H1 → (∀ H2 d, Evl.Ex H1 H2 → H2 d = none → E (.ref D) (some d) (upd H2 d (.xd fs))) → t E σ H1 Q')
    (hr : ∀ (G : Hp) (a d : Addr) (σ' : L2.St) (D' : Ends), G a = some (ErrAt (.ref D) (some d) a) → DictAt G (some d) fs → σ'.length = 3 → σ'[1]? = some (some (.ref a)) → (∀ p G', G p = none → Evl.Ex G G' → G' p = some (.tup vs) → D'.rt (.ref p) G') → tr D' σ' G)
    (k : ∀ p H3, Live T (upd B p (.tup vs)) H3 → H3 p = some (.tup vs) → B p = none → Q (.ref p) H3) : tLam T (THeardS K CS tr) t σ H Q := by
  refine ⟨l.tabs, fun H1 eN T1 f => ht H1 _ _ (l.exN eN T1).ex fun H2 d e2 hd => ⟨hx, fun a na σ' hl hσ => ?_⟩⟩
  have ad : d ≠ a := fun z => by rw [← z, upd_same] at na; cases na
  have eG : Evl.Ex H1 (upd (upd H2 d (.xd fs)) a (ErrAt (.ref D) (some d) a)) := (e2.trans (Evl.Ex.new hd)).trans (Evl.Ex.new na)
  refine hr _ a d σ' _ upd_same ⟨d, rfl, by rw [upd_ne ad, upd_same]⟩ hl hσ fun p G' hp e hG' => ?_
  have L := ((l.exN eN T1).go eG).go e
  refine k p G' (L.add hG' fun ps z => nomatch z) hG' ?_
  exact ((l.exN eN T1).go eG).fresh hp
/-- a lambda heard that raises nothing -/
theorem lam_calm {T : List (Addr × Str)} {CS : Addr} {tr : TS} {t : XK → TE} {B H : Hp} {Q : VK} (l : Live T B H)
    (ht : ∀ H1 E Q', Evl.Ex B H1 → (∀ v H2, Evl.Ex H1 H2 → Q' v H2) → t E σ H1 Q')
    (hr : ∀ (G : Hp) (f : Addr) (D' : Ends), (∀ G', Evl.Ex G G' → D'.rt .non G') → tr D' [some (.ref f), some .non, none] G)
    (k : ∀ H3, Live T B H3 → Q .non H3) : tLam T (THeardS K CS tr) t σ H Q :=
  ⟨l.tabs, fun H1 eN T1 f => ht H1 _ _ (l.exN eN T1).ex fun v H2 e2 => hr H2 f _ fun G' e => k G' (((l.exN eN T1).go e2).go e)⟩
end
end Hk
end S_Wk
section S_Kj
namespace P60
open PySem PySem.Spec PyProof.Rows L2 Tl Hk LamX
/-- a value that is asked about, and what it tells as a label -/
inductive TxV (K : PySem.W.Frag) (H : Hp) : V → Option Lb → Prop where
  | no {x : V} {n : String} (h : Ty7 K H x n) (hn : isStrV x = false) : TxV K H x none
  | bad {its : List Str} (h : Its its) (hn : ∀ L, ¬RdP its L) : TxV K H (.str (txt its)) none
  | yes {its : List Str} {L : Lb} (h : Its its) (hL : RdP its L) : TxV K H (.str (txt its)) (some L)
theorem TxV.ex {K : PySem.W.Frag} {H H' : Hp} {x : V} {r : Option Lb} (h : TxV K H x r) (e : Evl.Ex H H') : TxV K H' x r := by
  cases h with
  | no h hn => exact .no (h.ex e) hn
  | bad h hn => exact .bad h hn
  | yes h hL => exact .yes h hL
theorem dS_inj {a b : Nat} (ha : a < 1000) (hb : b < 1000) (h : dS a = dS b) : a = b := by
  have := num_dS a ha
  rw [h, num_dS b hb] at this
  exact (Option.some.inj this).symm
theorem rd_uniq {its : List Str} {L M : Lb} (h1 : RdP its L) (h2 : RdP its M) : L = M := by
  have e1 := rd_sv h1
  rw [rd_sv h2] at e1
  obtain ⟨a1, a2, a3⟩ := seat_eq (congrArg some e1)
  have hn : L.near.length = M.near.length := (rd_gn h1).symm.trans (rd_gn h2)
  have a4 : L.near = M.near := by
    refine List.ext_getElem hn fun i a b => ?_
    have g := rd_grp h1 a
    rw [rd_grp h2 b] at g
    have g : [("/" : Str), dS M.near[i].1, sS M.near[i].2] = [("/" : Str), dS L.near[i].1, sS L.near[i].2] := g
    obtain ⟨_, g⟩ := List.cons.inj g
    obtain ⟨y1, g⟩ := List.cons.inj g
    obtain ⟨y2, _⟩ := List.cons.inj g
    have q1 := (h1.1.near.each _ (List.getElem_mem a)).1
    have q2 := (h2.1.near.each _ (List.getElem_mem b)).1
    exact Prod.ext (dS_inj (by omega) (by omega) y1).symm (sS_inj y2).symm
  cases L
  cases M
  cases a1
  cases a2
  cases a3
  cases a4
  rfl
theorem lab_of {K : PySem.W.Frag} {H : Hp} {Q : VK} {E : XK} {x : V} {r : Option Lb} (h : TxV K H x r) (hy : ∀ L, r = some L → ∀ A H1, Evl.Ex H H1 → LabAt H1 A L → Q (.ref A) H1) (hn : r = none → ∀ H1, Evl.Ex H H1 → Q .non H1) : spLabelIn K [x] H Q E := by
  cases h with
  | no h hs => exact ⟨_, rfl, .inl ⟨_, h, hs, hn rfl⟩⟩
  | bad h hs => exact ⟨_, rfl, .inr ⟨_, rfl, h, fun L hL => absurd hL (hs L), fun _ => hn rfl⟩⟩
  | yes h hL => exact ⟨_, rfl, .inr ⟨_, rfl, h, fun M hM => hy M (congrArg some (rd_uniq hL hM)), fun hs => absurd hL (hs _)⟩⟩
abbrev Rz (C : Addr) (H : Hp) (E : XK) (part : Str) : Prop := ∀ H1 d, Evl.Ex H H1 → H1 d = none → E (.ref C) (some d) (upd H1 d (.xd [(("part" : Str), .str part)]))
def spWanted (K : PySem.W.Frag) (C : Addr) : Sp := fun vs H Q E => ∃ (x : V) (part : Str) (r : Option Lb), vs = [x, .str part] ∧ TxV K H x r ∧ (∀ L, r = some L → ∀ A H1, Evl.Ex H H1 → LabAt H1 A L → Q (.ref A) H1) ∧ (r = none → Rz C H E part)
def spTold (K : PySem.W.Frag) (C : Addr) : Sp := fun vs H Q E => ∃ (x : V) (r : Option Lb), vs = [x] ∧ TxV K H x r ∧ (∀ L, r = some L → ∀ A H1, Evl.Ex H H1 → LabAt H1 A L → Q (.ref A) H1) ∧ (r = none → Rz C H E "label")
def spIsLabel (K : PySem.W.Frag) : Sp := fun vs H Q _ => ∃ (x : V) (r : Option Lb), vs = [x] ∧ TxV K H x r ∧ ∀ H1, Evl.Ex H H1 → Q (.bl r.isSome) H1
def spAre (K : PySem.W.Frag) (C : Addr) : Sp := fun vs H Q E => ∃ (x y : V) (r s : Option Lb), vs = [x, y] ∧ TxV K H x r ∧ TxV K H y s ∧ (r = none ∨ s = none) ∧ (r = none → Rz C H E "one") ∧ (r.isSome = true → s = none → Rz C H E "other")
def spNo : Sp := fun _ _ _ _ => False
theorem scWanted : FnScope ["label", "part", "told"] ["label", "part"] (defScope sWanted) := ⟨rfl, rfl, rfl, by decide +kernel, rfl, by decide +kernel, by decide +kernel⟩
theorem scTold : FnScope ["label"] ["label"] (defScope sToldLabel) := ⟨rfl, rfl, rfl, by decide +kernel, rfl, by decide +kernel, by decide +kernel⟩
theorem scIsLabel : FnScope ["value"] ["value"] (defScope sIsLabel) := ⟨rfl, rfl, rfl, by decide +kernel, rfl, by decide +kernel, by decide +kernel⟩
theorem scSay : FnScope ["one", "other"] ["one", "other"] (defScope sSayTied) := ⟨rfl, rfl, rfl, by decide +kernel, rfl, by decide +kernel, by decide +kernel⟩
theorem scAre : FnScope ["one", "other"] ["one", "other"] (defScope sAreTied) := ⟨rfl, rfl, rfl, by decide +kernel, rfl, by decide +kernel, by decide +kernel⟩
section
variable {P : Program} {w : World} {K : PySem.W.Frag} {mg : Str → Option Value} {base : Heap}
theorem ok_say {f : Addr} {fd : FuncData} {k : Nat} (F : Fun K "say_tied" "say_tied" sSayTied f fd) : FnOk P w K mg base CX0 (k + 1) f fd ["one", "other"] spNo :=
  F.ok scSay (fun vs H Q E h => h.elim) (fun cdv A outer s H vs Q E hr h => h.elim)
theorem ok_isLabel {f fN : Addr} {fd fdN : FuncData} {k : Nat} (F : Fun K "is_label" "is_label" sIsLabel f fd)
    (FN : Fun K "label_in" "label_in" sLabelIn fN fdN) (GN : FnOk P w K mg base CX0 k fN fdN ["value"] (spLabelIn K)) (bN : Binds K fdN ["value"] []) (gN : mg "label_in" = some (.ref fN)) :
    FnOk P w K mg base CX0 (k + 1) f fd ["value"] (spIsLabel K) := by
  refine F.ok scIsLabel (fun vs H Q E h => ?_) (fun cdv A outer s H vs Q E hr h => ?_)
  · obtain ⟨x, r, rfl, _⟩ := h
    rfl
  · obtain ⟨x, r, rfl, hx, q⟩ := h
    refine ⟨_, pss_one (ps_ret (pe_cmpR op_notN (pe_call GN hr (by rfl) gN FN.kp bN .nil pass0 (pa_cons (pv 0) pa_nil)) pe_non (nomark _))), ?_⟩
    refine ret_go (op_go (call_go (Evl.ea_cons (Evl.ev_var rfl) Evl.ea_nil) fun H1 e1 => lab_of (hx.ex e1) (fun L hL A H2 e2 hA => ⟨rfl, ?_⟩) (fun hN H2 e2 => ⟨rfl, ?_⟩)))
    · have := q H2 (e1.trans e2)
      rw [hL] at this
      exact this
    · have := q H2 (e1.trans e2)
      rw [hN] at this
      exact this
theorem ok_wanted {qI : Str} {f fN CL fI : Addr} {fd fdN : FuncData} {k : Nat} (F : Fun K "_wanted_label" "_wanted_label" sWanted f fd)
    (FN : Fun K "label_in" "label_in" sLabelIn fN fdN) (GN : FnOk P w K mg base CX0 (k + 2) fN fdN ["value"] (spLabelIn K)) (bN : Binds K fdN ["value"] []) (gN : mg "label_in" = some (.ref fN))
    (T : PySem.PartX.PartTxt K mg "BadLabel" qI CL fI) : FnOk P w K mg base (L2.CX P w) (k + 3) f fd ["label", "part"] (spWanted K CL) := by
  refine F.okX scWanted (fun vs H Q E h => ?_) (fun cdv A outer s H vs Q E hr h => ?_)
  · obtain ⟨x, part, r, rfl, _⟩ := h
    rfl
  · obtain ⟨x, part, r, rfl, hx, hy, hn⟩ := h
    have nd := scWanted.nd
    refine ⟨_, pss_cons (ps_set (i := 2) nd rfl (.inl rfl) (pe_call GN hr (by rfl) gN FN.kp bN .nil pass0 (pa_cons (pv 0) pa_nil)))
      (pss_cons (ps_if (pt_cmpR op_isN (pv 2) pe_non (nomark _)) (pss_one (ps_raisePart rfl T (k := k + 2) hr (takes_of rfl rfl rfl rfl) (pa_cons (pv 1) pa_nil) (by rfl) (by decide))) pss_nil)
      (pss_one (ps_ret (pv 2)))), ?_⟩
    refine asg_go (call_go (Evl.ea_cons (Evl.ev_var rfl) Evl.ea_nil) fun H0 e0 => lab_of (hx.ex e0) (fun L hL A H1 e1 hA => ?_) (fun hN H1 e1 => ?_))
    · refine Evl.q_when (b := false) (Evl.et_is (Evl.et_test (b := false) (Evl.ev_op (x := .ref A) (y := .non) (z := .bl false) (Evl.ev_var rfl) Evl.ev_c rv_isN)) rfl) (fun z => nomatch z) fun _ H2 e2 => ?_
      exact Evl.s_ret (Evl.ev_var rfl) fun H3 e3 => hy L hL A H3 ((e0.trans e1).trans (e2.trans e3)) ((hA.ex e2).ex e3)
    · refine Evl.q_when (b := true) (Evl.et_is (Evl.et_test (b := true) (Evl.ev_op (x := .non) (y := .non) (z := .bl true) (Evl.ev_var rfl) Evl.ev_c rv_isN)) rfl) (fun _ H2 e2 => ?_) (fun z => nomatch z)
      exact ⟨_, rfl, .str part, rfl, fun d hd => hn hN _ d (e0.trans (e1.trans e2)) hd⟩
theorem ok_told {f fW CL : Addr} {fd fdW : FuncData} {k : Nat} (F : Fun K "told_label" "told_label" sToldLabel f fd)
    (FW : Fun K "_wanted_label" "_wanted_label" sWanted fW fdW) (GW : FnOk P w K mg base (L2.CX P w) k fW fdW ["label", "part"] (spWanted K CL)) (bW : Binds K fdW ["label", "part"] []) (gW : mg "_wanted_label" = some (.ref fW)) :
    FnOk P w K mg base (L2.CX P w) (k + 1) f fd ["label"] (spTold K CL) := by
  refine F.okX scTold (fun vs H Q E h => ?_) (fun cdv A outer s H vs Q E hr h => ?_)
  · obtain ⟨x, r, rfl, _⟩ := h
    rfl
  · obtain ⟨x, r, rfl, hx, hy, hn⟩ := h
    refine ⟨_, pss_one (ps_ret (pe_callS GW hr (by rfl) gW FW.kp bW (fun σ => passAt (takes_of rfl rfl rfl rfl) σ) (pa_cons (pv 0) (pa_cons pe_str pa_nil)))), ?_⟩
    exact ⟨x, rfl, x, "label", r, rfl, hx, hy, hn⟩
theorem ok_are {f fS fW CL : Addr} {fd fdS fdW : FuncData} {k : Nat} (F : Fun K "are_tied" "are_tied" sAreTied f fd)
    (FS : Fun K "say_tied" "say_tied" sSayTied fS fdS) (GS : FnOk P w K mg base CX0 k fS fdS ["one", "other"] spNo) (bS : Binds K fdS ["one", "other"] []) (gS : mg "say_tied" = some (.ref fS))
    (FW : Fun K "_wanted_label" "_wanted_label" sWanted fW fdW) (GW : FnOk P w K mg base (L2.CX P w) k fW fdW ["label", "part"] (spWanted K CL)) (bW : Binds K fdW ["label", "part"] []) (gW : mg "_wanted_label" = some (.ref fW)) :
    FnOk P w K mg base (L2.CX P w) (k + 1) f fd ["one", "other"] (spAre K CL) := by
  refine F.okX scAre (fun vs H Q E h => ?_) (fun cdv A outer s H vs Q E hr h => ?_)
  · obtain ⟨x, y, r, s, rfl, _⟩ := h
    rfl
  · obtain ⟨x, y, r, s, rfl, hx, hy, hrs, h1, h2⟩ := h
    refine ⟨_, pss_one (ps_ret (pe_call GS hr (by rfl) gS FS.kp bS .nil pass0 (pa_cons (pe_callS GW hr (by rfl) gW FW.kp bW (fun σ => passAt (takes_of rfl rfl rfl rfl) σ) (pa_cons (pv 0) (pa_cons pe_str pa_nil))) (pa_cons (pe_callS GW hr (by rfl) gW FW.kp bW (fun σ => passAt (takes_of rfl rfl rfl rfl) σ) (pa_cons (pv 1) (pa_cons pe_str pa_nil))) pa_nil)))), ?_⟩
    refine ⟨x, rfl, x, "one", r, rfl, hx, fun L hL A1 H1 e1 hA => ?_, h1⟩
    refine ⟨y, rfl, y, "other", s, rfl, hy.ex e1, fun M hM A2 H2 e2 hA2 => ?_, fun hs H2 d e2 hd => h2 (by rw [hL]; rfl) hs H2 d (e1.trans e2) hd⟩
    rcases hrs with z | z
    · rw [hL] at z; cases z
    · rw [hM] at z; cases z
end
end P60
end S_Kj
section S_Kk
namespace Hk
open PySem PySem.Spec PyProof.Rows L2 Tl
open Evl
/-- xs.extend(list) -/
theorem s_ext {K : PySem.W.Frag} {σ : L2.St} {H : Hp} {ta te : TE} {D : Ends} {l : Addr} {xs zs : List V} (hl : H l = some (.lst xs)) (ha : Ev ta σ H (.ref l)) (h : EvL te σ H zs) (hz : xs.length + zs.length ≤ 100000) (k : ∀ H1, Ex H H1 → D.nx σ (upd H1 l (.lst (xs ++ zs)))) :
    tDrop (tBM K "list" rExtend ta (tCons te tNil)) D σ H := ha H (Ex.refl H) _ fun H1 e1 =>
  ⟨Or.inl ⟨rfl, xs, sq_of (e1 l _ hl)⟩, h H1 e1 _ fun p H2 hp e2 h2 => ⟨l, p, xs, zs, rfl, rfl, e2 l _ (e1 l _ hl), h2, sz_of hz, k H2 (e1.trans e2)⟩⟩
end Hk
namespace P60
open PySem PySem.Spec PyProof.Rows L2 Tl Hk LamX
/-- a pair of a label's rows, a list or a tuple -/
def YB (K : PySem.W.Frag) (near : List (Nat × List Bool)) : Nat → Hp → V → Hp → Prop := fun i H v H' => H' = H ∧ ∃ r, v = .ref r ∧ SqS K H r [.int ((near.getD i (0, [])).1 : Int), .str (sS (near.getD i (0, [])).2)]
theorem ei_pairs {K : PySem.W.Frag} {σ : L2.St} {H : Hp} {te : TE} {N : Addr} {xs : List V} {near : List (Nat × List Bool)} (h : Evl.Ev te σ H (.ref N)) (hN : SqS K H N xs) (hl : xs.length = near.length)
    (hp : ∀ i v, i < near.length → xs[i]? = some v → ∃ r, v = .ref r ∧ SqS K H r [.int ((near.getD i (0, [])).1 : Int), .str (sS (near.getD i (0, [])).2)]) : EvI (iEi K te) σ H near.length (YB K near) := fun H1 e R k => by
  rcases hN with hN | hN
  · refine .inl ?_
    have w0 := walk_list (K := K) (a := N) (xs := xs)
    rw [hl] at w0
    refine h H1 e _ fun H2 e2 => ⟨N, rfl, ⟨_, Evl.ex_l (e.trans e2) hN⟩, k _ (fun A => SqL K A N xs ∧ Evl.Ex H A) H2 e2 (w0.mono (fun _ q => q.1) fun i A v A' hi q y => ?_) fun A ab _ => ⟨Evl.ex_l ab hN, ab⟩⟩
    obtain ⟨r, rfl, hr⟩ := hp i v hi y.2
    exact ⟨y.1, r, rfl, hr.ex q.2⟩
  · refine .inr ?_
    have w0 := walk_tup (K := K) (a := N) (xs := xs)
    rw [hl] at w0
    refine h H1 e _ fun H2 e2 => ⟨N, rfl, ⟨_, Evl.ex_t (e.trans e2) hN⟩, k _ (fun A => SqT K A N xs ∧ Evl.Ex H A) H2 e2 (w0.mono (fun _ q => q.1) fun i A v A' hi q y => ?_) fun A ab _ => ⟨Evl.ex_t ab hN, ab⟩⟩
    obtain ⟨r, rfl, hr⟩ := hp i v hi y.2
    exact ⟨y.1, r, rfl, hr.ex q.2⟩
theorem aims_pairs {K : PySem.W.Frag} {near : List (Nat × List Bool)} {n j1 j2 : Nat} : Aims (gEi K 2 (gCons (gName j1) (gCons (gName j2) gNil))) n (YB K near)
    (fun i σ => (σ.set j1 (some (.int ((near.getD i (0, [])).1 : Int)))).set j2 (some (.str (sS (near.getD i (0, [])).2)))) := fun i σ H v H' hi y => by
  obtain ⟨rfl, r, rfl, hr⟩ := y
  exact ⟨Evl.Ex.refl _, fun Q q => gEi_of hr rfl ⟨_, _, rfl, _, _, rfl, rfl, q⟩⟩
def pre (L : Lb) (i : Nat) : List V := ([dS L.p, dS L.l, dS L.n] ++ ((L.near.take i).map gi).flatten).map V.str
theorem pre_len (L : Lb) (i : Nat) : (pre L i).length ≤ 3 + 3 * L.near.length := by
  unfold pre
  rw [List.length_map, List.length_append, flat_len, List.length_take]
  show 3 + _ ≤ _
  omega
theorem pre_succ {L : Lb} {i : Nat} (h : i < L.near.length) : pre L i ++ [V.str "/", V.str (dS (L.near.getD i (0, [])).1), V.str (sS (L.near.getD i (0, [])).2)] = pre L (i + 1) := by
  unfold pre
  have e : ((L.near.take (i + 1)).map gi).flatten = ((L.near.take i).map gi).flatten ++ gi L.near[i] := by
    rw [List.take_succ_eq_append_getElem h, List.map_append, List.flatten_append, List.map_cons, List.map_nil, List.flatten_cons, List.flatten_nil, List.append_nil]
  rw [e, ← List.append_assoc, List.map_append (l₂ := gi L.near[i])]
  congr 1
  rw [List.getD_eq_getElem?_getD, List.getElem?_eq_getElem h]
  rfl
theorem pre_all (L : Lb) : pre L L.near.length = (items L).map V.str := by
  unfold pre items
  rw [List.take_length]
theorem lg1000 : ∀ n, n < 1000 → ((n : Nat) : Int).natAbs.log2 < 1920 := by decide +kernel
theorem dS_len : ∀ n, n < 1000 → (dS n).length ≤ 3 := by decide +kernel
theorem ev_strN {σ : L2.St} {H : Hp} {ta : TE} {n : Nat} (h : Evl.Ev ta σ H (.int (n : Int))) (hn : n < 1000) : Evl.Ev (tCB (fun xs H Q => ∃ i, xs = [V.int i] ∧ i.natAbs.log2 < 1920 ∧ Q (.str (toString i)) H) (tCons ta tNil)) σ H (.str (dS n)) := fun H1 e Q q =>
  h H1 e _ fun H2 e2 => ⟨(n : Int), rfl, lg1000 n hn, q H2 e2⟩
abbrev teStr (j : Nat) : TE := tCB (fun xs H Q => ∃ i, xs = [V.int i] ∧ i.natAbs.log2 < 1920 ∧ Q (.str (toString i)) H) (tCons (tVar j) tNil)
theorem el_seat {K : PySem.W.Frag} {σ : L2.St} {H : Hp} {wi : TI} {L : Lb} {j : Nat} (h : EvI wi σ H (seatL L.p L.l L.n).length (YAt (seatL L.p L.l L.n))) (hL : L.Ok) (hw : ∀ x, wipe ((wipe σ [j]).set j x) [j] = wipe σ [j]) (hj : ∀ x, ((wipe σ [j]).set j (some x))[j]? = some (some x)) : Evl.EvL (tLc wi (gName j) tYes (teStr j) [j]) σ H (pre L 0) := by
  have hn := hL.hn
  have hp := hL.hp
  have hl := hL.hl
  exact el_lcI (te := teStr j) (t := tYes) (vs := [j]) (fun _ => true) (fun i => V.str (([dS L.p, dS L.l, dS L.n] : List Str).getD i "")) h (aims_at (j := j)) (fun _ => hw _) (by show 3 ≤ _; omega) (fun _ _ _ _ => et_yes) fun i H4 e4 hi _ => by
    have hi : i < 3 := hi
    match i, hi with
    | 0, _ => exact ev_strN (Evl.ev_var (hj _)) (by omega)
    | 1, _ => exact ev_strN (Evl.ev_var (hj _)) (by omega)
    | 2, _ => exact ev_strN (Evl.ev_var (hj _)) (by omega)
theorem el_row {σ : L2.St} {H : Hp} {L : Lb} {i j1 j2 : Nat} (hL : L.Ok) (hi : i < L.near.length) (h1 : σ[j1]? = some (some (.int ((L.near.getD i (0, [])).1 : Int)))) (h2 : σ[j2]? = some (some (.str (sS (L.near.getD i (0, [])).2)))) :
    Evl.EvL (tLst (tCons (tC (.str "/")) (tCons (teStr j1) (tCons (tVar j2) tNil)))) σ H [V.str "/", V.str (dS (L.near.getD i (0, [])).1), V.str (sS (L.near.getD i (0, [])).2)] := by
  refine Evl.el_lst (Evl.ea_cons Evl.ev_c (Evl.ea_cons (ev_strN (Evl.ev_var h1) ?_) (Evl.ea_cons (Evl.ev_var h2) Evl.ea_nil))) (by show 3 ≤ 100000; decide)
  rw [List.getD_eq_getElem?_getD, List.getElem?_eq_getElem hi]
  have := (hL.near.each _ (List.getElem_mem hi)).1
  show L.near[i].1 < 1000
  omega
theorem items_sum {L : Lb} (h : L.Ok) : ((items L).map (·.length)).sum + (items L).length * 1 ≤ 1000 := by
  have h1 := sum_le (ps := items L) (m := 9) fun s hs => by
    unfold items at hs
    have hn := h.hn
    have hp := h.hp
    have hl := h.hl
    rcases List.mem_append.mp hs with hs | hs
    · simp only [List.mem_cons, List.not_mem_nil, or_false] at hs
      rcases hs with rfl | rfl | rfl
      · have := dS_len L.p (by omega); omega
      · have := dS_len L.l (by omega); omega
      · have := dS_len L.n (by omega); omega
    · obtain ⟨g, hg, hs⟩ := List.mem_flatten.mp hs
      obtain ⟨q, hq, rfl⟩ := List.mem_map.mp hg
      obtain ⟨q1, q2, _⟩ := h.near.each q hq
      unfold gi at hs
      simp only [List.mem_cons, List.not_mem_nil, or_false] at hs
      rcases hs with rfl | rfl | rfl
      · decide
      · have := dS_len q.1 (by omega); omega
      · rw [sS_len, q2]; decide
  have h2 := items_len L
  have h3 := h.near.len
  omega
theorem ev_join {K : PySem.W.Frag} {σ : L2.St} {H : Hp} {L : Lb} {I : Addr} {j : Nat} (hL : L.Ok) (hj : σ[j]? = some (some (.ref I))) (hI : H I = some (.lst ((items L).map V.str))) :
    Evl.Ev (tBM K "str" (fun x xs H Q => ∃ a p, ∃ ys : List Str, x = .str a ∧ xs = [.ref p] ∧ (SqL K H p (ys.map V.str) ∨ SqT K H p (ys.map V.str)) ∧ (ys.map (·.length)).sum + ys.length * a.length ≤ 16777216 ∧ Q (.str (Txt.join a ys)) H) (tC (.str " ")) (tCons (tVar j) tNil)) σ H (.str (txt (items L))) := fun H1 e Q q =>
  ⟨rfl, ⟨_, hj, " ", I, items L, rfl, rfl, .inl (Evl.sq_of (e _ _ hI)), by
    have := items_sum hL
    show ((items L).map (·.length)).sum + (items L).length * 1 ≤ 16777216
    omega, q H1 (Evl.Ex.refl _)⟩⟩
theorem scLabelText : FnScope ["seat", "near", "items", "number", "piece", "signs"] ["seat", "near"] (defScope sLabelText) := ⟨rfl, rfl, rfl, by decide +kernel, rfl, by decide +kernel, by decide +kernel⟩
def spLabelText (K : PySem.W.Frag) (CS CL : Addr) : Sp := fun vs H Q E => ∃ (x y : V) (o : Option (List V)), vs = [x, y] ∧ ValR K H x o ∧ (¬SmallP o → Rz CS H E "seat") ∧ (∀ p l n, o = seatIs p l n → n < 3 → p ≤ 999 → l ≤ 999 → ∃ ds, DV K H y ds ∧ (¬NearV p l n ds → Rz CL H E "near") ∧ (∀ near, ds = some (near.map pieceIs) → NearP p l n near → ∀ H1, Evl.Ex H H1 → Q (.str (txt (items ⟨p, l, n, near⟩))) H1))
section
variable {P : Program} {w : World} {K : PySem.W.Frag} {mg : Str → Option Value} {base : Heap}
set_option maxHeartbeats 1000000 in
theorem ok_labelText {qS qL : Str} {f fS fP CS CL fIS fIL : Addr} {fd fdS fdP : FuncData} {k : Nat} (F : Fun K "label_text" "label_text" sLabelText f fd)
    (FS : Fun K "_is_small_seat" "_is_small_seat" sSmallSeat fS fdS) (GS : FnOk P w K mg base CX0 (k + 2) fS fdS ["value"] (spSeat K SmallP)) (bS : Binds K fdS ["value"] []) (gS : mg "_is_small_seat" = some (.ref fS))
    (FP : Fun K "_are_near_pieces" "_are_near_pieces" sNearPieces fP fdP) (GP : FnOk P w K mg base CX0 (k + 2) fP fdP ["seat", "value"] (spNearPieces K)) (bP : Binds K fdP ["seat", "value"] []) (gP : mg "_are_near_pieces" = some (.ref fP))
    (TS : PySem.PartX.PartTxt K mg "BadSeats" qS CS fIS) (TL : PySem.PartX.PartTxt K mg "BadLabel" qL CL fIL)
    (mstr : mg "str" = none) : FnOk P w K mg base (L2.CX P w) (k + 3) f fd ["seat", "near"] (spLabelText K CS CL) := by
  refine F.okX scLabelText (fun vs H Q E h => ?_) (fun cdv A outer s H vs Q E hr h => ?_)
  · obtain ⟨x, y, o, rfl, _⟩ := h
    rfl
  · obtain ⟨x, y, o, rfl, hx, hbs, hgo⟩ := h
    have nd := scLabelText.nd
    refine ⟨_, pss_cons (ps_if (pt_not (pt_val (pe_call GS hr (by rfl) gS FS.kp bS .nil pass0 (pa_cons (pv 0) pa_nil)))) (pss_one (ps_raisePart rfl TS (k := k + 2) hr (takes_of rfl rfl rfl rfl) (pa_cons pe_str pa_nil) (by rfl) (by decide))) pss_nil)
      (pss_cons (ps_if (pt_not (pt_val (pe_call GP hr (by rfl) gP FP.kp bP .nil pass0 (pa_cons (pv 0) (pa_cons (pv 1) pa_nil))))) (pss_one (ps_raisePart rfl TL (k := k + 2) hr (takes_of rfl rfl rfl rfl) (pa_cons pe_str pa_nil) (by rfl) (by decide))) pss_nil)
      (PSs.nox (pss_cons (ps_setLc (i := 2) (own := [("number", 3)]) (g := gName 3) (tt := tYes) (te := teStr 3) rfl nd rfl rfl (sw_true rfl rfl rfl (by decide +kernel)) (pi_ei (pv 0)) (blkOk_by (N := ["seat", "near", "items", "number", "piece", "signs"]) (sc := defScope sLabelText) (by decide +kernel)) (fun _ _ _ _ _ => pg_name (i := 3) nd rfl (Or.inl rfl)) (fun _ _ _ _ _ => pts_nil)
          (fun _ _ _ _ _ => pe_callTy call_str_int (by rfl) mstr (by decide +kernel) (pa_cons (pv 3) pa_nil)))
      (pss_cons (ps_for PassesOwn.never rfl (pi_ei (pv 1)) (pg_ei (by rfl) (pgs_cons (pg_name (i := 4) nd rfl (Or.inl rfl)) (pgs_cons (pg_name (i := 5) nd rfl (Or.inl rfl)) pgs_nil)))
          (pss_one (ps_expr (pe_bm PySem.F.plainAttrs_list PySem.F.slot_list_extend PySem.F.type_list_extend mt_extend (pv 2) (pa_cons (pe_lst (pa_cons pe_str (pa_cons (pe_callTy call_str_int (by rfl) mstr (by decide +kernel) (pa_cons (pv 4) pa_nil)) (pa_cons (pv 5) pa_nil)))) pa_nil)))))
      (pss_one (ps_ret (pe_bm PySem.F.plainAttrs_str PySem.F.slot_str_join PySem.F.type_str_join mt_join pe_str (pa_cons (pv 2) pa_nil)))))))), ?_⟩
    refine Evl.q_when (b := !pd (SmallP o)) (Evl.et_not (Evl.et_B (Evl.ev_call (Evl.ea_cons (Evl.ev_var rfl) Evl.ea_nil) (spv_seat hx)))) (fun hb H1 e1 => ?_) fun hb H1 e1 => ?_
    · rw [Bool.not_eq_true'] at hb
      exact ⟨.str "seat", rfl, fun d hd => hbs (pd_not hb) H1 d e1 hd⟩
    rw [Bool.not_eq_false'] at hb
    obtain ⟨p, l, n, rfl, hn, hp, hl⟩ := pd_of hb
    obtain ⟨S, rfl, hS, _, _⟩ := hx.sq
    obtain ⟨ds, hy, hbl, hgood⟩ := hgo p l n rfl hn hp hl
    have hS1 := hS.ex e1
    refine Evl.q_when (b := !pd (NearV p l n ds)) (Evl.et_not (Evl.et_B (Evl.ev_call (Evl.ea_cons (Evl.ev_var rfl) (Evl.ea_cons (Evl.ev_var rfl) Evl.ea_nil)) (spv_nearPieces hS1 hl hn (hy.ex e1))))) (fun hb H2 e2 => ?_) fun hb H2 e2 => ?_
    · rw [Bool.not_eq_true'] at hb
      exact ⟨.str "near", rfl, fun d hd => hbl (pd_not hb) H2 d (e1.trans e2) hd⟩
    rw [Bool.not_eq_false'] at hb
    obtain ⟨near, rfl, hNP⟩ := pd_of hb
    obtain ⟨xs, hv, hlen, hit⟩ := hy
    obtain ⟨N, rfl, hN, _, _⟩ := hv.sq
    have e12 := e1.trans e2
    obtain ⟨L, hLd⟩ : ∃ L : Lb, L = ⟨p, l, n, near⟩ := ⟨_, rfl⟩
    have hL : L.Ok := by rw [hLd]; exact ⟨hp, hl, hn, hNP⟩
    have q := hgood near rfl hNP
    rw [← hLd] at q
    have hnear : near = L.near := by rw [hLd]
    have hsl : seatL p l n = seatL L.p L.l L.n := by rw [hLd]
    rw [hnear, List.length_map] at hlen
    have hn4 := hL.near.len
    refine Evl.q_asgL (xs := pre L 0) (el_seat (K := K) (by rw [← hsl]; exact ei_ei (Evl.ev_var rfl) (hS.ex e12)) hL (fun _ => rfl) fun _ => rfl) fun I H3 hI e3 h3 => ?_
    refine q_forI (B := H2) (ei_pairs (K := K) (near := L.near) (Evl.ev_var (i := 1) rfl) (hN.ex e12) hlen fun i v hi hv => ?_) (aims_pairs (j1 := 4) (j2 := 5)) e3 (fun G i σ' H' => ∃ y4 y5, σ' = [some (.ref S), some (.ref N), some (.ref I), none, y4, y5] ∧ H' I = some (.lst (pre L i)) ∧ ∀ a o, a ≠ I → G a = some o → H' a = some o)
      (fun G eG => ⟨_, _, rfl, eG _ _ h3, fun _ _ _ h => h⟩) (fun G i σ' H' eG hi p => ?_) (fun G i σ' H' H'' eG hi p e4 => ?_) (fun G σ' H' eG p => ?_)
    · obtain ⟨a1, _⟩ := hit i v (pieceIs L.near[i]) hv (by rw [hnear, List.getElem?_map, List.getElem?_eq_getElem hi]; rfl)
      obtain ⟨r, rfl, hr', _, _⟩ := a1.sq
      refine ⟨r, rfl, ?_⟩
      rw [List.getD_eq_getElem?_getD, List.getElem?_eq_getElem hi]
      exact hr'.ex e12
    · obtain ⟨y4, y5, rfl, hI', hk⟩ := p
      exact ⟨fun a o h => hk a o (ne_of_none h hI) (eG _ _ (e3 _ _ h)), fun a o h1 h2 => hk a o (fun z => by rw [z, h3] at h1; cases h1) h2⟩
    · obtain ⟨y4, y5, rfl, hI', hk⟩ := p
      have hpl := pre_len L i
      refine s_ext (xs := pre L i) (e4 _ _ hI') (Evl.ev_var rfl) (el_row hL hi rfl rfl) (by show (pre L i).length + 3 ≤ 100000; omega) fun H5 e5 => ?_
      exact ⟨_, _, rfl, by rw [pre_succ hi]; exact upd_same, fun a o hne h => by rw [upd_ne hne]; exact e5 _ _ (e4 _ _ (hk a o hne h))⟩
    · obtain ⟨y4, y5, rfl, hI', hk⟩ := p
      rw [pre_all] at hI'
      refine Evl.s_ret (ev_join hL rfl hI') fun H5 e5 => q H5 fun a o h => e5 _ _ (hk a o (ne_of_none (e12 _ _ h) hI) (eG _ _ (e3 _ _ (e12 _ _ h))))
end
end P60
end S_Kk
section S_Kl
namespace P60
open PySem PySem.Spec PyProof.Rows L2 Tl Hk LamX
abbrev nLR : List Str := ["value", "items", "seat", "near", "item", "at", "piece", "signs", "sign", "others"]
theorem scLRead : FnScope nLR ["value"] (defScope sLRead) := ⟨rfl, rfl, rfl, by decide +kernel, rfl, by decide +kernel, by decide +kernel⟩
def spRead (K : PySem.W.Frag) : Sp := fun vs H Q _ => ∃ (x : V) (r : Option Lb), vs = [x] ∧ TxV K H x r ∧ (∀ L, r = some L → ∀ A H1, Evl.Ex H H1 → LabAt H1 A L → Q (.ref A) H1) ∧ (r = none → ∀ H1, Evl.Ex H H1 → Q .non H1)
abbrev rIntAny : List V → Hp → VK → Prop := fun xs H Q => (∃ i, xs = [V.int i] ∧ Q (V.int i) H) ∨ ∃ k, xs = [V.bl k] ∧ Q (V.int (if k = true then 1 else 0)) H
theorem grp_at {its : List Str} {i j : Nat} {g0 g1 g2 : Str} (h : grp its i = [g0, g1, g2]) (hj : j < 3) : its[3 + 3 * i + j]? = [g0, g1, g2][j]? := by
  have := congrArg (fun l => l[j]?) h
  unfold grp at this
  rw [List.getElem?_take, if_pos hj, List.getElem?_drop] at this
  exact this
theorem rd_len {its : List Str} {L : Lb} (h : RdP its L) : its.length = 3 + 3 * L.near.length ∧ 1 ≤ L.near.length ∧ L.near.length ≤ 4 := by
  obtain ⟨h1, rfl⟩ := h
  obtain ⟨b, r, e, _⟩ := h1.near.head
  refine ⟨items_len L, ?_, h1.near.len⟩
  rw [e]
  exact Nat.succ_le_succ (Nat.zero_le _)
theorem gi_inj {a b : Nat × List Bool} (ha : a.1 < 1000) (hb : b.1 < 1000) (h : gi a = gi b) : a = b := by
  have g : [("/" : Str), dS a.1, sS a.2] = [("/" : Str), dS b.1, sS b.2] := h
  obtain ⟨_, g⟩ := List.cons.inj g
  obtain ⟨y1, g⟩ := List.cons.inj g
  obtain ⟨y2, _⟩ := List.cons.inj g
  exact Prod.ext (dS_inj ha hb y1) (sS_inj y2)
theorem el_ifSplit {K : PySem.W.Frag} {H : Hp} {x : V} {r : Option Lb} (hx : TxV K H x r) : ∃ its : List Str, Evl.EvL (tIf (tB (tCB (rIsi K) (tCons (tVar 0) (tCons (tC (.ty "str")) tNil)))) (tBM K "str" (fun x xs H Q => ∃ a b, x = .str a ∧ xs = [.str b] ∧ (b.length == 0) = false ∧ a.length + 2 ≤ sizeLine ∧ rNewStrs (Txt.split a b) H Q) (tVar 0) (tCons (tC (.str " ")) tNil)) (tLst tNil)) (start nLR [x]) H (its.map V.str) ∧
    its.length ≤ 60 ∧ (∀ s ∈ its, Item s) ∧ (∀ L, RdP its L → r = some L) ∧ ((∀ L, ¬RdP its L) → r = none) := by
  have yes : ∀ its, x = .str (txt its) → Its its → Evl.EvL (tIf (tB (tCB (rIsi K) (tCons (tVar 0) (tCons (tC (.ty "str")) tNil)))) (tBM K "str" (fun x xs H Q => ∃ a b, x = .str a ∧ xs = [.str b] ∧ (b.length == 0) = false ∧ a.length + 2 ≤ sizeLine ∧ rNewStrs (Txt.split a b) H Q) (tVar 0) (tCons (tC (.str " ")) tNil)) (tLst tNil)) (start nLR [x]) H (its.map V.str) := fun its ex hI => by
    subst ex
    exact fun H1 e Q q => (Evl.et_is (Evl.et_B (Evl.ev_cb (Evl.ea_cons (Evl.ev_var rfl) (Evl.ea_cons Evl.ev_c Evl.ea_nil)) (rc_str (K := K) (H := H) (x := .str (txt its)) (.str _)))) (b := true) rfl) H1 e _ fun H2 e2 => if_go (fun _ => ⟨.str (txt its), rfl, rfl, txt its, " ", rfl, rfl, by decide +kernel, by have := hI.txt_len; rw [sizeLine_eq]; omega, fun p hp => by
      rw [hI.split]
      exact q p _ (Evl.fresh_back e2 hp) (e2.trans (Evl.Ex.new hp)) upd_same⟩) fun z => nomatch z
  cases hx with
  | no h hn =>
    refine ⟨[], fun H1 e Q q => (Evl.et_is (Evl.et_B (Evl.ev_cb (Evl.ea_cons (Evl.ev_var rfl) (Evl.ea_cons Evl.ev_c Evl.ea_nil)) (rc_str h))) hn) H1 e _ fun H2 e2 => if_go (fun z => nomatch z) fun _ => ⟨Nat.zero_le _, fun p hp => q p _ (Evl.fresh_back e2 hp) (e2.trans (Evl.Ex.new hp)) upd_same⟩, Nat.zero_le _, (fun s hs => by cases hs), fun L hL => ?_, fun _ => rfl⟩
    have := (rd_len hL).1
    rw [List.length_nil] at this
    omega
  | bad hI hn => exact ⟨_, yes _ rfl hI, hI.len, hI.all, fun L hL => absurd hL (hn L), fun _ => rfl⟩
  | yes hI hL => exact ⟨_, yes _ rfl hI, hI.len, hI.all, fun M hM => by rw [rd_uniq hL hM], fun hn => absurd hL (hn _)⟩
theorem rows_snoc {H : Hp} {rs : List Addr} {nr : List (Nat × List Bool)} {N r : Addr} {q : Nat × List Bool} {l : List V} (h : RowsP H rs nr) (hr : H r = some (.tup [.int (q.1 : Int), .str (sS q.2)])) (hN : H N = some (.lst l)) {l' : List V} : RowsP (upd H N (.lst l')) (rs ++ [r]) (nr ++ [q]) := by
  have st : ∀ {r : Addr} {q : Nat × List Bool}, PairAt H r q → PairAt (upd H N (.lst l')) r q := fun {r q} hp => by
    have hp : H r = some (.tup [.int (q.1 : Int), .str (sS q.2)]) := hp
    have ne : r ≠ N := fun z => by rw [z, hN] at hp; cases hp
    show upd H N _ r = _
    rw [upd_ne ne]
    exact hp
  obtain ⟨hl, h⟩ := h
  refine ⟨by rw [List.length_append, List.length_append, hl]; rfl, fun i r' q' a b => ?_⟩
  rcases Nat.lt_or_ge i rs.length with z | z
  · rw [List.getElem?_append_left z] at a
    rw [List.getElem?_append_left (by omega)] at b
    exact st (h i r' q' a b)
  · rw [List.getElem?_append_right z] at a
    rw [List.getElem?_append_right (by omega), ← hl] at b
    rcases Nat.lt_or_ge (i - rs.length) 1 with y | y
    · have e : i - rs.length = 0 := by omega
      rw [e] at a b
      cases a
      cases b
      exact st hr
    · rw [List.getElem?_eq_none (by rw [List.length_singleton]; exact y)] at a
      cases a
theorem three_le {its : List Str} {p l n : Nat} (hI : ∀ s ∈ its, Item s) (h : (its.take 3).map (numV ∘ num) = seatL p l n) : p < 1000 ∧ l < 1000 := by
  have hm : ∀ s ∈ its.take 3, Item s := fun s hs => hI s (List.mem_of_mem_take hs)
  generalize its.take 3 = t at h hm
  have hl := congrArg List.length h
  rw [List.length_map] at hl
  match t, hl with
  | [a, b, c], _ =>
    have h : [numV (num a), numV (num b), numV (num c)] = [V.int (p : Int), .int (l : Int), .int (n : Int)] := h
    obtain ⟨h1, h⟩ := List.cons.inj h
    obtain ⟨h2, h⟩ := List.cons.inj h
    exact ⟨((hm a (by simp)).back (numV_inj h1)).2, ((hm b (by simp)).back (numV_inj h2)).2⟩
theorem et_has1 {σ : L2.St} {H : Hp} {j : Nat} {b : List Bool} (hj : σ[j]? = some (some (.str (sS b)))) (hb : b.length = 9) : Evl.EvT (tTest (tOp (fun x y H Q => ∃ i j, x = V.str i ∧ y = V.str j ∧ Q (.bl (!(Builtin.Str.occurrences j i 0 j.length 1).isEmpty)) H) (tC (.str "1")) (tSl rSlS (tVar j) tNoPart (tPart (tC (.int 3)))))) σ H (!decide (b.take 3 = f3)) := by
  obtain ⟨b0, b1, b2, r, rfl⟩ : ∃ b0 b1 b2 r, b = b0 :: b1 :: b2 :: r := by
    match b, hb with
    | b0 :: b1 :: b2 :: r, _ => exact ⟨_, _, _, _, rfl⟩
  have e3 : (!decide ((b0 :: b1 :: b2 :: r).take 3 = f3)) = (b0 || (b1 || b2)) := by
    show (!decide ([b0, b1, b2] = f3)) = _
    cases b0 <;> cases b1 <;> cases b2 <;> rfl
  rw [e3]
  refine Evl.et_test (Evl.ev_op (x := .str "1") (y := .str (sS [b0, b1, b2])) Evl.ev_c (Evl.ev_is (ev_slS (Evl.ev_var hj) Evl.eo_none (Evl.eo_some Evl.ev_c) (by rw [sS_len, hb, sizeLine_eq]; decide)) (congrArg V.str (sS_cut3 hb))) fun G e Q q => ⟨_, _, rfl, rfl, ?_⟩)
  rw [one3]
  exact q G (Evl.Ex.refl _)
section
variable {P : Program} {w : World} {K : PySem.W.Frag} {mg : Str → Option Value} {base : Heap}
set_option maxHeartbeats 2000000 in
theorem ok_read {f fN : Addr} {fd fdN : FuncData} {k : Nat} (F : Fun K "_law_read" "_law_read" sLRead f fd)
    (FN : Fun K "_law_number" "_law_number" sLNumber fN fdN) (GN : FnOk P w K mg base CX0 k fN fdN ["item"] spLNumber) (bN : Binds K fdN ["item"] []) (gN : mg "_law_number" = some (.ref fN))
    (mi : mg "isinstance" = none) (mstr : mg "str" = none) (mint : mg "int" = none) (mlen : mg "len" = none) (mset : mg "set" = none) (msorted : mg "sorted" = none) (mtup : mg "tuple" = none) (mrange : mg "range" = none) :
    FnOk P w K mg base CX0 (k + 1) f fd ["value"] (spRead K) := by
  refine F.ok scLRead (fun vs H Q E h => ?_) (fun cdv A outer s H vs Q E hr h => ?_)
  · obtain ⟨x, r, rfl, _⟩ := h
    rfl
  · obtain ⟨x, r, rfl, hx, qy, qn⟩ := h
    have nd := scLRead.nd
    refine ⟨_, pss_cons (ps_set (i := 1) nd rfl (.inl rfl) (pe_ifExp (pt_val (pe_callB call_isi (by rfl) mi (by decide +kernel) (pa_cons (pv 0) (pa_cons (pe_bltn (v := .ty "str") (by rfl) mstr (by decide +kernel) rfl) pa_nil)))) (pe_bm PySem.F.plainAttrs_str PySem.F.slot_str_split PySem.F.type_str_split mt_split (pv 0) (pa_cons pe_str pa_nil)) (pe_lst pa_nil)))
      (pss_cons (ps_if (PW.pt (pw_or (pt_cmpR op_lt (pe_callB call_len_seq (by rfl) mlen PySem.boot_len (pa_cons (pv 1) pa_nil)) pe_int (nomark _)) (pw_or (pt_cmpR op_ne (pe_op op_modN (pe_callTy call_int1 (by rfl) mint (by decide +kernel) (pa_cons (pe_callB call_len_seq (by rfl) mlen PySem.boot_len (pa_cons (pv 1) pa_nil)) pa_nil)) pe_int) pe_int (nomark _)) (pw_or1 (pt_cmpR op_gt (pe_callB call_len_seq (by rfl) mlen PySem.boot_len (pa_cons (pv 1) pa_nil)) pe_int (nomark _)))))) (pss_one (ps_ret pe_non)) pss_nil)
      (pss_cons (ps_par (i := 2) (j := 3) (by rfl) nd rfl rfl (by decide) rfl rfl (pa_cons (pe_lc (own := [("item", 4)]) (g := gName 4) (tt := tYes) (te := tCall spLNumber [] E0 (tCons (tVar 4) tNil)) rfl nd (pi_list (pe_slice sl_list (pv 1) po_none (po_some pe_int))) (blkOk_by (N := nLR) (sc := defScope sLRead) (by decide +kernel)) (fun _ _ _ _ _ => pg_name (i := 4) nd rfl (Or.inl rfl)) (fun _ _ _ _ _ => pts_nil)
          (fun _ _ _ _ _ => pe_call GN hr (by rfl) gN FN.kp bN .nil pass0 (pa_cons (pv 4) pa_nil))) (pa_cons (pe_lst pa_nil) pa_nil)) (by rfl))
      (pss_cons (ps_if (PW.pt (pw_or (pt_cmpR op_in_seq pe_non (pv 2) (by with_unfolding_all rfl)) (pw_or1 (pt_cmpR op_gt (pe_ix ix_list (pv 2) pe_int (fun _ _ => rfl)) pe_int (nomark _))))) (pss_one (ps_ret pe_non)) pss_nil)
      (pss_cons (ps_for PassesOwn.never rfl (pi_range3 (by rfl) mrange (pa_cons pe_int (pa_cons (pe_callB call_len_seq (by rfl) mlen PySem.boot_len (pa_cons (pv 1) pa_nil)) (pa_cons pe_int pa_nil)))) (pg_name (i := 5) nd rfl (Or.inl rfl))
          (pss_cons (ps_par (i := 6) (j := 7) (by rfl) nd rfl rfl (by decide) rfl rfl (pa_cons (pe_call GN hr (by rfl) gN FN.kp bN .nil pass0 (pa_cons (pe_ix ix_list (pv 1) (pe_op op_add (pv 5) pe_int) (fun _ _ => rfl)) pa_nil)) (pa_cons (pe_ix ix_list (pv 1) (pe_op op_add (pv 5) pe_int) (fun _ _ => rfl)) pa_nil)) (by rfl))
          (pss_cons (ps_if (PW.pt (pw_or (pt_cmpR op_ne (pe_ix ix_list (pv 1) (pv 5) (fun _ _ => rfl)) pe_str (nomark _)) (pw_or (pt_cmpR op_isN (pv 6) pe_non (nomark _)) (pw_or (pt_cmpR op_ne (pe_callB call_len_str (by rfl) mlen PySem.boot_len (pa_cons (pv 7) pa_nil)) pe_int (nomark _))
              (pw_or1 (pt_cmpR (op_neD hr.units) (pe_lc (own := [("sign", 8)]) (g := gName 8) (tt := tTest (tOp rNotInS (tVar 8) (tC (.str "01")))) (te := tVar 8) rfl nd (pi_str (pv 7)) (blkOk_by (N := nLR) (sc := defScope sLRead) (by decide +kernel)) (fun _ _ _ _ _ => pg_name (i := 8) nd rfl (Or.inl rfl))
                (fun _ _ _ _ _ => pts_one (pt_cmpR op_notIn_str (pv 8) pe_str (by with_unfolding_all rfl))) (fun _ _ _ _ _ => pv 8)) (pe_lst pa_nil) (nomark _))))))) (pss_one (ps_ret pe_non)) pss_nil)
          (pss_cons (ps_if (PW.pt (pw_and (pt_cmpR op_eq (pe_ix ix_list (pv 2) pe_int (fun _ _ => rfl)) pe_int (nomark _)) (pw_and1 (pt_cmpR op_in_str pe_str (pe_slice sl_str (pv 7) po_none (po_some pe_int)) (by with_unfolding_all rfl))))) (pss_one (ps_ret pe_non)) pss_nil)
          (pss_one (ps_expr (pe_bm PySem.F.plainAttrs_list PySem.F.slot_list_append PySem.F.type_list_append mt_append (pv 3) (pa_cons (pe_tup (pa_cons (pv 6) (pa_cons (pv 7) pa_nil))) pa_nil))))))))
      (pss_cons (ps_setLc (i := 9) (own := [("piece", 6), ("signs", 7)]) (g := gTup K 2 (gCons (gName 6) (gCons (gName 7) gNil))) (tt := tYes) (te := tVar 6) rfl nd rfl rfl (sw_true rfl rfl rfl (by decide +kernel)) (pi_list (pe_slice sl_list (pv 3) (po_some pe_int) po_none)) (blkOk_by (N := nLR) (sc := defScope sLRead) (by decide +kernel)) (fun _ _ _ _ _ => pg_tup (by rfl) (pgs_cons (pg_name (i := 6) nd rfl (Or.inl rfl)) (pgs_cons (pg_name (i := 7) nd rfl (Or.inl rfl)) pgs_nil))) (fun _ _ _ _ _ => pts_nil)
          (fun _ _ _ _ _ => pv 6))
      (pss_cons (ps_if (PW.pt (pw_or (pt_cmpR op_ne (pe_ix ix_tup (pe_ix ix_list (pv 3) pe_int (fun _ _ => rfl)) pe_int (fun _ _ => rfl)) (pe_ix ix_list (pv 2) pe_int (fun _ _ => rfl)) (nomark _)) (pw_or (pt_cmpR op_in_seq (pe_ix ix_list (pv 2) pe_int (fun _ _ => rfl)) (pv 9) (by with_unfolding_all rfl))
          (pw_or (pt_cmpR (op_neD hr.units) (pv 9) (pe_callB (cr_sortedSet rfl) (by rfl) msorted (by decide +kernel) (pa_cons (pe_callTy (cr_setL rfl) (by rfl) mset (by decide +kernel) (pa_cons (pv 9) pa_nil)) pa_nil)) (nomark _))
          (pw_or1 (pt_cmpR op_ne (pe_ix ix_str (pe_ix ix_tup (pe_ix ix_list (pv 3) pe_int (fun _ _ => rfl)) pe_int (fun _ _ => rfl)) (pe_op op_add pe_int (pe_ix ix_list (pv 2) pe_int (fun _ _ => rfl))) (fun _ _ => rfl)) pe_str (nomark _))))))) (pss_one (ps_ret pe_non)) pss_nil)
      (pss_one (ps_ret (pe_tup (pa_cons (pe_callTy call_tuple_of (by rfl) mtup (by decide +kernel) (pa_cons (pv 2) pa_nil)) (pa_cons (pe_callTy call_tuple_of (by rfl) mtup (by decide +kernel) (pa_cons (pv 3) pa_nil)) pa_nil))))))))))), ?_⟩
    obtain ⟨its, hev, hlen, hall, hr1, hr2⟩ := el_ifSplit hx
    refine Evl.q_asgL hev fun I H1 hI e1 h1 => ?_
    have lmi : (its.map V.str).length = its.length := List.length_map _
    have non : ∀ {D : Ends} {σ : L2.St} {G : Hp}, D.rt = Q → (∀ L, ¬RdP its L) → Evl.Ex H G → tRet (tC .non) D σ G := fun {D σ G} hD h e => by
      show D.rt _ G
      rw [hD]
      exact qn (hr2 h) G e
    have elen : ∀ {σ : L2.St} {G : Hp}, σ[1]? = some (some (.ref I)) → Evl.Ex H1 G → Evl.Ev (tCB (Evl.rLenS K) (tCons (tVar 1) tNil)) σ G (.int (its.length : Int)) := fun h e => Evl.ev_is (Evl.ev_len (Evl.ev_var h) (Evl.sq_of (e _ _ h1))) (congrArg (fun n : Nat => V.int (n : Int)) lmi)
    refine Evl.q_when (b := decide (its.length < 6) || (!decide (its.length % 3 = 0) || decide (15 < its.length))) (Evl.et_or (Evl.et_is (Evl.et_test (Evl.ev_op (elen rfl (Evl.Ex.refl _)) Evl.ev_c Evl.rv_I0)) (decide_eq_decide.mpr ⟨fun z => by omega, fun z => by omega⟩)) fun _ => Evl.et_or (Evl.et_is (Evl.et_test (Evl.ev_op (Evl.ev_op (ev_int (elen rfl (Evl.Ex.refl _))) Evl.ev_c (Evl.rv_I (by decide))) Evl.ev_c (Evl.rv_ne rfl))) (congrArg (!·) (decide_eq_decide.mpr ⟨fun z => ?_, fun z => ?_⟩))) fun _ => Evl.et_is (Evl.et_test (Evl.ev_op (elen rfl (Evl.Ex.refl _)) Evl.ev_c Evl.rv_I0)) (decide_eq_decide.mpr ⟨fun z => by omega, fun z => by omega⟩)) (fun hb H2 e2 => ?_) fun hb H2 e2 => ?_
    · have z := V.int.inj z
      rw [Int.fmod_eq_emod_of_nonneg _ (by omega)] at z
      omega
    · show V.int _ = V.int 0
      rw [Int.fmod_eq_emod_of_nonneg _ (by omega)]
      congr 1
      omega
    · refine non rfl (fun L hL => ?_) (e1.trans e2)
      obtain ⟨a1, a2, a3⟩ := rd_len hL
      rw [decide_eq_false (by omega), decide_eq_true (by omega), decide_eq_false (by omega)] at hb
      cases hb
    rw [Bool.or_eq_false_iff, Bool.or_eq_false_iff, Bool.not_eq_false'] at hb
    have l6 := of_decide_eq_false hb.1
    have l3 := of_decide_eq_true hb.2.1
    have l15 := of_decide_eq_false hb.2.2
    obtain ⟨m, hm, hm1, hm4⟩ : ∃ m, its.length = 3 + 3 * m ∧ 1 ≤ m ∧ m ≤ 4 := ⟨its.length / 3 - 1, by omega, by omega, by omega⟩
    have hgn : gn its.length = m := by rw [hm]; unfold gn; omega
    have h2 := e2 _ _ h1
    have e12 := e1.trans e2
    obtain ⟨sv, esv⟩ : ∃ sv, (its.take 3).map (numV ∘ num) = sv := ⟨_, rfl⟩
    have lt3 : (its.take 3).length = 3 := by rw [List.length_take]; omega
    refine par_go (cons_l (xs := sv) ?_ fun Sx H3 hS e3 h3 => cons_l (xs := []) (Evl.el_lst Evl.ea_nil (Nat.zero_le _)) fun Nr H4 hN e4 h4 => ⟨_, _, rfl, ?_⟩)
    · have hcut : Evl.EvL (tSl (rSlL K) (tVar 1) tNoPart (tPart (tC (.int 3)))) (wipe [some x, some (.ref I), none, none, none, none, none, none, none, none] [4]) H2 ((its.take 3).map V.str) := by
        rw [List.map_take, ← cutTo']
        exact Evl.el_sl (Evl.ev_var rfl) Evl.eo_none (Evl.eo_some Evl.ev_c) (Evl.sq_of h2)
      rw [← esv, ← given_all (its.take 3) "" (numV ∘ num), ← List.length_map (f := V.str)]
      refine el_lcI (te := tCall spLNumber [] E0 (tCons (tVar 4) tNil)) (t := tYes) (σ := [some x, some (.ref I), none, none, none, none, none, none, none, none]) (H := H2) (vs := [4]) (fun _ => true) _ (ei_listN (K := K) hcut) (aims_at (j := 4)) (fun _ => rfl) (by rw [List.length_map]; omega) (fun _ _ _ _ => et_yes) fun i H4 e4 hi _ => ?_
      rw [List.length_map] at hi
      have x1 : ((its.take 3).map V.str).getD i .non = .str ((its.take 3).getD i "") := by
        rw [List.getD_eq_getElem?_getD, List.getElem?_map, List.getElem?_eq_getElem hi, List.getD_eq_getElem?_getD, List.getElem?_eq_getElem hi]
        rfl
      rw [x1]
      refine Evl.ev_call (Evl.ea_cons (Evl.ev_var rfl) Evl.ea_nil) (spv_lNumber ?_)
      rw [List.getD_eq_getElem?_getD, List.getElem?_eq_getElem hi]
      exact hall _ (List.mem_of_mem_take (List.getElem_mem hi))
    have e14 := (e12.trans e3).trans e4
    have hSx3 := h3
    have h3 := e4 _ _ h3
    have h2' := e4 _ _ (e3 _ _ h2)
    have in_ : ∀ {σ : L2.St} {b : Bool}, σ[2]? = some (some (.ref Sx)) → inV .non sv = b → Evl.EvT (tTest (tOp (rIn K false) (tC .non) (tVar 2))) σ H4 b := fun h hb => Evl.et_test (Evl.ev_op (x := .non) (y := .ref Sx) Evl.ev_c (Evl.ev_var h) fun G e Q' q' => ⟨Sx, sv, rfl, .inl (Evl.sq_of (e _ _ h3)), rfl, by
      rw [← esv, List.all_eq_true]
      intro v hv
      obtain ⟨s, _, rfl⟩ := List.mem_map.mp hv
      show flatV (numV (num s)) = true
      cases num s <;> rfl, by
      show Q' (.bl (inV .non sv)) G
      rw [hb]
      exact q' G (Evl.Ex.refl _)⟩)
    by_cases hsv : ¬∃ p l n : Nat, sv = seatL p l n
    · refine Evl.q_when (b := true) (Evl.et_or (a := true) (b := false) (in_ rfl ?_) fun z => nomatch z) (fun _ H5 e5 => ?_) fun z => nomatch z
      · have he := esv
        generalize its.take 3 = t at lt3 he
        match t, lt3 with
        | [a, b, c], _ =>
          have he : [numV (num a), numV (num b), numV (num c)] = sv := he
          rw [← he]
          rw [← he] at hsv
          cases ha : num a with
          | none => rfl
          | some p =>
            cases hb : num b with
            | none => rfl
            | some l =>
              cases hc : num c with
              | none => rfl
              | some n =>
                rw [ha, hb, hc] at hsv
                exact absurd ⟨p, l, n, rfl⟩ hsv
      · exact non rfl (fun L hL => hsv ⟨L.p, L.l, L.n, by rw [← esv]; exact rd_sv hL⟩) (e14.trans e5)
    obtain ⟨p, l, n, rfl⟩ := Classical.not_not.mp hsv
    have t3 := three_of hall esv
    refine Evl.q_when (b := decide (2 < n)) (Evl.et_is (Evl.et_or (a := false) (in_ rfl rfl) fun _ => Evl.et_is (Evl.et_test (Evl.ev_op (Evl.ev_op (Evl.ev_var rfl) Evl.ev_c (Evl.rv_ixL (Evl.sq_of h3) (atI_nat (j := 2) rfl))) Evl.ev_c Evl.rv_I0)) (decide_eq_decide.mpr ⟨fun z => by omega, fun z => by omega⟩)) (Bool.false_or _)) (fun hb H5 e5 => ?_) fun hb H5 e5 => ?_
    · refine non rfl (fun L hL => ?_) (e14.trans e5)
      have e := rd_sv hL
      rw [esv] at e
      obtain ⟨_, _, e⟩ := seat_eq (congrArg some e)
      have := hL.1.hn
      have := of_decide_eq_true hb
      omega
    have hn2 : n < 3 := by have := of_decide_eq_false hb; omega
    have e15 := e14.trans e5
    have i5 := e5 _ _ h2'
    have s5 := e5 _ _ h3
    have n5 := e5 _ _ h4
    have hItem : ∀ i, i < m → ∃ g0 g1 g2, grp its i = [g0, g1, g2] ∧ Item g0 ∧ Item g1 ∧ Item g2 := fun i hi => by
      have hl : (grp its i).length = 3 := by
        unfold grp
        rw [List.length_take, List.length_drop]
        omega
      have hsub : ∀ s ∈ grp its i, Item s := fun s hs => hall s (List.mem_of_mem_drop (List.mem_of_mem_take hs))
      generalize grp its i = g at hl hsub
      match g, hl with
      | [a, b, c], _ => exact ⟨a, b, c, rfl, hsub _ (by simp), hsub _ (by simp), hsub _ (by simp)⟩
    have rdq : ∀ {L : Lb} {i : Nat} {g0 g1 g2 : Str}, RdP its L → i < m → grp its i = [g0, g1, g2] → ∃ q, q ∈ L.near ∧ g0 = "/" ∧ g1 = dS q.1 ∧ g2 = sS q.2 ∧ PieceP L.p L.l L.n q ∧ p = L.p ∧ l = L.l ∧ n = L.n ∧ L.near[i]? = some q := fun {L i g0 g1 g2} hL hi hg => by
      have e := rd_sv hL
      rw [esv] at e
      obtain ⟨y1, y2, y3⟩ := seat_eq (congrArg some e)
      have hi : i < L.near.length := by have := rd_gn hL; omega
      have := rd_grp hL hi
      rw [hg] at this
      have this : [g0, g1, g2] = [("/" : Str), dS L.near[i].1, sS L.near[i].2] := this
      obtain ⟨u0, this⟩ := List.cons.inj this
      obtain ⟨u1, this⟩ := List.cons.inj this
      obtain ⟨u2, _⟩ := List.cons.inj this
      exact ⟨_, List.getElem_mem hi, u0, u1, u2, hL.1.near.each _ (List.getElem_mem hi), y1, y2, y3, List.getElem?_eq_getElem hi⟩
    refine q_forI (B := H3) (n := gn its.length) (ei_rng3 (Evl.ea_cons Evl.ev_c (Evl.ea_cons (elen rfl (e2.trans e3)) (Evl.ea_cons Evl.ev_c Evl.ea_nil))) (rgC its.length (by omega))) (aims_fn (j := 5)) (e4.trans e5)
      (fun G i σ' H' => ∃ y5 y6 y7 rs nr, σ' = [some x, some (.ref I), some (.ref Sx), some (.ref Nr), none, y5, y6, y7, none, none] ∧ H' Nr = some (.lst (rs.map V.ref)) ∧ RowsP H' rs nr ∧ nr.length = i ∧ (∀ j (hj : j < nr.length), grp its j = gi nr[j]) ∧ (∀ q ∈ nr, q.1 ≤ 999 ∧ q.2.length = 9 ∧ (l = 0 → q.2.take 3 = f3)) ∧ ∀ a o, a ≠ Nr → G a = some o → H' a = some o)
      (fun G eG => ⟨_, _, _, [], [], rfl, eG _ _ n5, ⟨rfl, fun _ _ _ z _ => by simp at z⟩, rfl, (fun j hj => absurd hj (Nat.not_lt_zero _)), (fun q hq => by cases hq), fun _ _ _ h => h⟩) (fun G i σ' H' eG hi p => ?_) (fun G i σ' H' H'' eG hi p e6 => ?_) (fun G σ' H' eG p => ?_)
    · obtain ⟨y5, y6, y7, rs, nr, rfl, hNr, hrs, hl', hgr, hea, hk⟩ := p
      exact ⟨fun a o h => hk a o (ne_of_none h hN) (eG _ _ (e5 _ _ (e4 _ _ h))), fun a o h1 h2 => hk a o (fun z => by rw [z, n5] at h1; cases h1) h2⟩
    · obtain ⟨y5, y6, y7, rs, nr, rfl, hNr, hrs, hl', hgr, hea, hk⟩ := p
      rw [hgn] at hi
      obtain ⟨g0, g1, g2, hg, I0, I1, I2⟩ := hItem i hi
      have g35 : Evl.Ex H3 H'' := fun a o h => e6 _ _ (hk a o (ne_of_none h hN) (eG _ _ (e5 _ _ (e4 _ _ h))))
      have gI := g35 _ _ (e3 _ _ h2)
      have gS := g35 _ _ hSx3
      have hne : ∀ {a : Str}, decide (V.str g0 = V.str a) = decide (g0 = a) := fun {a} => decide_eq_decide.mpr ⟨fun z => V.str.inj z, fun z => congrArg V.str z⟩
      have ix : ∀ {σ : L2.St} {G : Hp} {te : TE} {j : Nat} {g : Str}, σ[1]? = some (some (.ref I)) → Evl.Ex H'' G → Evl.Ev te σ G (.int ((3 + 3 * i + j : Nat) : Int)) → j < 3 → [g0, g1, g2][j]? = some g → Evl.Ev (tOp (rIxL K) (tVar 1) te) σ G (.str g) := fun {σ G te j g} h1 e h2 hj hg' => Evl.ev_op (Evl.ev_var h1) h2 (Evl.rv_ixL (Evl.sq_of (e _ _ gI)) (atI_nat (by rw [List.getElem?_map, grp_at hg hj, hg'] <;> rfl)))
      have at0 : (3 : Int) + (i : Int) * 3 = ((3 + 3 * i + 0 : Nat) : Int) := by omega
      refine par_go (cons_v (v := numV (num g1)) (Evl.ev_call (Evl.ea_cons (ix (j := 1) rfl (Evl.Ex.refl _) (Evl.ev_is (Evl.ev_op (Evl.ev_var rfl) Evl.ev_c Evl.rv_I0) (congrArg V.int (by omega))) (by decide) rfl) Evl.ea_nil) (spv_lNumber I1)) fun H7 e7 => cons_v (v := .str g2) (ix (j := 2) rfl e7 (Evl.ev_is (Evl.ev_op (Evl.ev_var rfl) Evl.ev_c Evl.rv_I0) (congrArg V.int (by omega))) (by decide) rfl) fun H8 e8 => ⟨_, _, rfl, ?_⟩)
      have e78 := e7.trans e8
      have l2 := I2.len
      have sz : g2.length ≤ sizeLine := by rw [sizeLine_eq]; omega
      have hsz : g2.cps.size ≤ 141 := l2
      have g68 : Evl.Ex H H8 := (((e12.trans e3).trans g35).trans e78)
      refine Evl.q_when (b := !decide (g0 = "/") || ((num g1).isNone || (!decide (g2.length = 9) || g2.cps.toList.any fun c => !in2 c))) (Evl.et_or (Evl.et_is (Evl.et_test (Evl.ev_op (ix (j := 0) rfl e78 (Evl.ev_is (Evl.ev_var rfl) (congrArg V.int at0)) (by decide) rfl) Evl.ev_c (Evl.rv_ne rfl))) (congrArg (!·) hne)) fun _ => Evl.et_or (Evl.et_is (Evl.et_test (Evl.ev_op (Evl.ev_var rfl) Evl.ev_c rv_isN)) (by cases num g1 <;> rfl)) fun _ => Evl.et_or (Evl.et_is (Evl.et_test (Evl.ev_op (x := .int (g2.length : Int)) (fun H1 e Q' q' => ⟨.str g2, rfl, g2, rfl, sz, q' H1 (Evl.Ex.refl _)⟩) Evl.ev_c (Evl.rv_ne rfl))) (congrArg (!·) (decide_eq_decide.mpr ⟨fun z => by have := V.int.inj z; omega, fun z => by rw [z]; rfl⟩))) fun _ => Evl.et_is (Evl.et_test (ev_neNilD (xs := Evl.given g2.cps.size (fun i => !in2 (g2.cps.getD i 0)) fun i => V.str ⟨#[g2.cps.getD i 0]⟩) (el_lcI (te := tVar 8) (vs := [8]) (fun i => !in2 (g2.cps.getD i 0)) (fun i => V.str ⟨#[g2.cps.getD i 0]⟩) (ei_str (Evl.ev_var (i := 7) rfl)) (aims_str (j := 8)) (fun _ => rfl) (by omega) (fun j H1 e hj => ?_) fun j H1 e hj _ => Evl.ev_var rfl) (Evl.el_lst Evl.ea_nil (Nat.zero_le _)) (dps_signs fun c hc => I2.sign hc))) (none_any (f := fun c => !in2 c))) (fun hb2 H9 e9 => ?_) fun hb2 H9 e9 => ?_
      · exact Evl.et_test (Evl.ev_op (x := .str ⟨#[g2.cps.getD j 0]⟩) (y := .str "01") (Evl.ev_var rfl) Evl.ev_c fun G eG Q' q' => ⟨_, _, rfl, rfl, q' G (Evl.Ex.refl _)⟩)
      · refine non rfl (fun L hL => ?_) (g68.trans e9)
        obtain ⟨q', hq', u0, u1, u2, ⟨k1, k2, _⟩, _⟩ := rdq hL hi hg
        have hin : (g2.cps.toList.any fun c => !in2 c) = false := by
          rw [List.any_eq_false]
          intro c hc
          rw [I2.in2 hc]
          have := List.all_eq_true.mp (sS_in01 q'.2) c (by rw [← u2]; exact hc)
          rcases in01_iff.mp this with rfl | rfl <;> decide
        rw [hin, u0, u1, u2, num_dS _ (by omega), decide_eq_true (show (sS q'.2).length = 9 by rw [sS_len]; exact k2), decide_eq_true (show ("/" : Str) = "/" from rfl)] at hb2
        cases hb2
      rw [Bool.or_eq_false_iff, Bool.or_eq_false_iff, Bool.or_eq_false_iff, Bool.not_eq_false', Bool.not_eq_false'] at hb2
      obtain ⟨v0, v1, v2, v3⟩ := hb2
      have v0 := of_decide_eq_true v0
      have v2 := of_decide_eq_true v2
      obtain ⟨kk, hkk⟩ : ∃ kk, num g1 = some kk := by
        cases hn' : num g1 with
        | none => rw [hn'] at v1; cases v1
        | some kk => exact ⟨kk, rfl⟩
      obtain ⟨b, hgb, hbl⟩ := of_in01 (z := g2) (by
        rw [List.all_eq_true]
        intro c hc
        have := List.any_eq_false.mp v3 c hc
        rw [I2.in2 hc, Bool.not_eq_true, Bool.not_eq_false', Bool.or_eq_true_iff] at this
        exact in01_iff.mpr (this.imp of_decide_eq_true of_decide_eq_true))
      rw [v2] at hbl
      rw [hkk, hgb]
      have e89 := e78.trans e9
      refine Evl.q_when (b := decide (l = 0) && !decide (b.take 3 = f3)) (Evl.et_and (Evl.et_is (Evl.et_test (Evl.ev_op (Evl.ev_op (Evl.ev_var rfl) Evl.ev_c (Evl.rv_ixL (Evl.sq_of (e89 _ _ gS)) (atI_nat (j := 1) rfl))) Evl.ev_c (Evl.rv_eq rfl))) (decide_eq_decide.mpr ⟨fun y => by have := V.int.inj y; omega, fun y => by rw [y]; rfl⟩)) fun _ => et_has1 rfl hbl) (fun hb3 H10 e10 => ?_) fun hb3 H10 e10 => ?_
      · refine non rfl (fun L hL => ?_) ((g68.trans e9).trans e10)
        obtain ⟨q', hq', u0, u1, u2, ⟨k1, k2, k3, _⟩, _, ul, _⟩ := rdq hL hi hg
        rw [hgb] at u2
        have u2 := sS_inj u2
        obtain ⟨w1, w2⟩ := Bool.and_eq_true_iff.mp hb3
        have := k3 (by rw [← ul]; exact of_decide_eq_true w1)
        rw [u2, decide_eq_true this] at w2
        cases w2
      · have e6X : Evl.Ex H' H10 := e6.trans (e89.trans e10)
        have hNr10 := e6X _ _ hNr
        have hrl : rs.length ≤ 4 := by rw [hrs.1, hl']; omega
        refine Evl.s_appU (xs := rs.map V.ref) (ys := [.int (kk : Int), .str (sS b)]) hNr10 (Evl.ev_var rfl) (Evl.eu_tup (Evl.ea_cons (Evl.ev_var rfl) (Evl.ea_cons (Evl.ev_var rfl) Evl.ea_nil)) (by show 2 ≤ 100000; decide)) (by rw [List.length_map]; omega) fun p' H12 hp e13 h13 => ?_
        have g3 : Evl.Ex H' H12 := e6X.trans e13
        have hR12 := g3 _ _ hNr
        refine ⟨_, _, _, rs ++ [p'], nr ++ [(kk, b)], rfl, by rw [upd_same, List.map_append]; rfl, ?_, by rw [List.length_append, hl', List.length_singleton], fun j hj => ?_, fun q' hq' => ?_, fun a o ha h => by rw [upd_ne ha]; exact g3 _ _ (hk a o ha h)⟩
        · exact rows_snoc (hrs.ex g3) h13 hR12
        · rcases Nat.lt_or_ge j nr.length with z | z
          · rw [List.getElem_append_left z]
            exact hgr j z
          · have e : j = i := by rw [List.length_append, List.length_singleton] at hj; omega
            subst e
            rw [List.getElem_append_right z, hg]
            have e0 : j - nr.length = 0 := by omega
            simp only [e0, List.getElem_singleton]
            rw [v0, hgb, (I1.back hkk).1]
            rfl
        · rcases List.mem_append.mp hq' with h | h
          · exact hea q' h
          · obtain rfl := List.mem_singleton.mp h
            refine ⟨by have := (I1.back hkk).2; show kk ≤ 999; omega, hbl, fun z => ?_⟩
            rcases Bool.and_eq_false_iff.mp hb3 with u | u
            · exact absurd z (of_decide_eq_false u)
            · rw [Bool.not_eq_false'] at u
              exact of_decide_eq_true u
    · obtain ⟨y5, y6, y7, rs, nr, rfl, hNr, hrs, hl', hgr, hea, hk⟩ := p
      rw [hgn] at hl'
      have g3 : Evl.Ex H3 H' := fun a o h => hk a o (ne_of_none h hN) (eG _ _ (e5 _ _ (e4 _ _ h)))
      have gH : Evl.Ex H H' := (e12.trans e3).trans g3
      have gS := g3 _ _ hSx3
      obtain ⟨q0, r', rfl⟩ : ∃ q0 r', nr = q0 :: r' := by
        cases nr with
        | nil => rw [List.length_nil] at hl'; omega
        | cons q0 r' => exact ⟨_, _, rfl⟩
      obtain ⟨R0, rs', rfl⟩ : ∃ R0 rs', rs = R0 :: rs' := by
        cases rs with
        | nil => exact absurd hrs.1 (by simp)
        | cons R0 rs' => exact ⟨_, _, rfl⟩
      have hR0 : H' R0 = some (.tup [.int (q0.1 : Int), .str (sS q0.2)]) := hrs.2 0 _ _ rfl rfl
      have hrs' : RowsP H' rs' r' := ⟨by have := hrs.1; simpa using this, fun i x q a b => hrs.2 (i + 1) x q (by simpa using a) (by simpa using b)⟩
      have hr4 : r'.length ≤ 3 := by rw [List.length_cons] at hl'; omega
      have lrs' : r'.length = (((R0 :: rs').map V.ref).drop 1).length := by
        show _ = (rs'.map V.ref).length
        rw [List.length_map, hrs'.1]
      refine Evl.q_asgL (xs := (pcs r').map V.int) ?_ fun O H6 hO0 e6 hO => ?_
      · unfold pcs
        rw [List.map_map, ← given_all r' (0, []) (V.int ∘ fun q : Nat × List Bool => (q.1 : Int))]
        refine el_lcI (te := tVar 6) (t := tYes) (vs := [6, 7]) (fun _ => true) _ (ei_rowsN (K := K) (n := r'.length) (xs := ((R0 :: rs').map V.ref).drop 1) (W := fun A => ∀ i v, i < r'.length → (((R0 :: rs').map V.ref).drop 1)[i]? = some v → ∃ z, v = .ref z ∧ A z = some (.tup [V.int ((r'.getD i (0, [])).1 : Int), V.str (sS (r'.getD i (0, [])).2)])) (el_from1 (Evl.ev_var (i := 3) rfl) (Evl.eo_some Evl.ev_c) (Evl.sq_of hNr)) lrs' fun A hA i v hi hv => ?_) (aims_rowT2 (K := K) (j1 := 6) (j2 := 7) (c := fun i => (V.int ((r'.getD i (0, [])).1 : Int), V.str (sS (r'.getD i (0, [])).2)))) (fun _ => rfl) (by omega) (fun _ _ _ _ => et_yes) fun i H4 e4 hi _ => Evl.ev_var rfl
        have hv : (rs'.map V.ref)[i]? = some v := hv
        have hi2 : i < rs'.length := by rw [hrs'.1]; exact hi
        rw [List.getElem?_map, List.getElem?_eq_getElem hi2] at hv
        refine ⟨rs'[i], (Option.some.inj hv).symm, ?_⟩
        rw [List.getD_eq_getElem?_getD, List.getElem?_eq_getElem hi]
        exact hA _ _ (hrs'.2 i _ _ (List.getElem?_eq_getElem hi2) (List.getElem?_eq_getElem hi))
      have hNr6 := e6 _ _ hNr
      have hR6 := e6 _ _ hR0
      have gS6 := e6 _ _ gS
      have row : ∀ {σ : L2.St}, σ[3]? = some (some (.ref Nr)) → Evl.Ev (tOp (rIxL K) (tVar 3) (tC (.int 0))) σ H6 (.ref R0) := fun h => Evl.ev_op (Evl.ev_var h) Evl.ev_c (Evl.rv_ixL (Evl.sq_of hNr6) (atI_nat (j := 0) rfl))
      have seat0 : ∀ {σ : L2.St}, σ[2]? = some (some (.ref Sx)) → Evl.Ev (tOp (rIxL K) (tVar 2) (tC (.int 0))) σ H6 (.int (p : Int)) := fun h => Evl.ev_op (Evl.ev_var h) Evl.ev_c (Evl.rv_ixL (Evl.sq_of gS6) (atI_nat (j := 0) rfl))
      have hq0 := hea q0 List.mem_cons_self
      have lpr : (pcs r').length < 60 := by unfold pcs; rw [List.length_map]; omega
      have rdn : ∀ {L : Lb}, RdP its L → L.near = q0 :: r' := fun {L} hL => by
        have hln : L.near.length = (q0 :: r').length := by rw [hl', ← hgn, rd_gn hL]
        refine List.ext_getElem hln fun i a b => ?_
        have h1 := rd_grp hL a
        rw [hgr i b] at h1
        have k1 := (hL.1.near.each _ (List.getElem_mem a)).1
        have k2 := (hea _ (List.getElem_mem b)).1
        exact (gi_inj (by omega) (by omega) h1).symm
      refine Evl.q_when (b := !decide (q0.1 = p) || (decide ((p : Int) ∈ pcs r') || (!pd ((pcs r').Pairwise (· < ·)) || q0.2.getD (3 + n) false))) (Evl.et_or (Evl.et_is (Evl.et_test (Evl.ev_op (x := .int (q0.1 : Int)) (y := .int (p : Int)) (Evl.ev_op (row rfl) Evl.ev_c (Evl.rv_ixT (Evl.st_of hR6) (atI_nat (j := 0) rfl))) (seat0 rfl) (Evl.rv_ne rfl))) (congrArg (!·) (decide_eq_decide.mpr ⟨fun z => by have := V.int.inj z; omega, fun z => by rw [z]⟩))) fun _ => Evl.et_or (Evl.et_test (Evl.ev_op (x := .int (p : Int)) (y := .ref O) (seat0 rfl) (Evl.ev_var rfl) fun G e Q' q' => ⟨O, _, rfl, .inl (Evl.sq_of (e _ _ hO)), rfl, flat_ints _, by
          show Q' (.bl (inV (.int (p : Int)) ((pcs r').map V.int))) G
          rw [in_ints]
          exact q' G (Evl.Ex.refl _)⟩)) fun _ => Evl.et_or (Evl.et_test (ev_neSS (Evl.ev_var rfl) (Evl.ev_var rfl) hO lpr)) fun _ => Evl.et_is (Evl.et_test (Evl.ev_op (x := .str ⟨#[sg (q0.2.getD (3 + n) false)]⟩) (Evl.ev_op (Evl.ev_op (row rfl) Evl.ev_c (Evl.rv_ixT (Evl.st_of hR6) (atI_nat (j := 1) rfl))) (Evl.ev_op Evl.ev_c (Evl.ev_op (Evl.ev_var rfl) Evl.ev_c (Evl.rv_ixL (Evl.sq_of gS6) (atI_nat (j := 2) rfl))) Evl.rv_I0) fun H5 e5 Q' q' => ⟨sS q0.2, _, sg (q0.2.getD (3 + n) false), rfl, rfl, by rw [sS_len, hq0.2.1, sizeLine_eq]; decide, ?_, q' H5 (Evl.Ex.refl _)⟩) Evl.ev_c (Evl.rv_ne rfl))) ?_) (fun hb2 H7 e7 => ?_) fun hb2 H7 e7 => ?_
      · show atI (sS q0.2).cps.toList ((3 : Int) + (n : Int)) = _
        rw [show (3 : Int) + (n : Int) = ((3 + n : Nat) : Int) by omega]
        exact sS_at (by rw [hq0.2.1]; omega)
      · cases q0.2.getD (3 + n) false <;> decide
      · refine non rfl (fun L hL => ?_) ((gH.trans e6).trans e7)
        obtain ⟨b, r2, e, w1, w2⟩ := hL.1.near.head
        have e2 := rd_sv hL
        rw [esv] at e2
        obtain ⟨y1, y2, y3⟩ := seat_eq (congrArg some e2)
        have en := rdn hL
        rw [e] at en
        obtain ⟨z1, z2⟩ := List.cons.inj en
        have z3 : q0.1 = p := by rw [← z1, y1]
        have z4 := (hL.1.near.each q0 (by rw [rdn hL]; exact List.mem_cons_self)).2.2.2 (by rw [z3, y1])
        rw [decide_eq_true z3, decide_eq_false (fun y => w2 (by rw [z2, ← y1]; exact pcs_in.mp y)), pd_true (pcs_pw.mpr (by rw [← z2]; exact w1)), y3, z4] at hb2
        cases hb2
      · rw [Bool.or_eq_false_iff, Bool.or_eq_false_iff, Bool.or_eq_false_iff, Bool.not_eq_false', Bool.not_eq_false'] at hb2
        obtain ⟨v0, v1, v2, v3⟩ := hb2
        have v0 := of_decide_eq_true v0
        have v1 := of_decide_eq_false v1
        obtain ⟨hp9, hl9⟩ := three_le hall esv
        have hp9 : p ≤ 999 := by omega
        have hl9 : l ≤ 999 := by omega
        have hRd : RdP its ⟨p, l, n, q0 :: r'⟩ := ⟨⟨hp9, hl9, hn2, { len := by rw [hl']; exact hm4, head := ⟨q0.2, r', by rw [← v0], pcs_pw.mp (pd_of v2), fun y => v1 (pcs_in.mpr y)⟩, each := fun q' hq' => ⟨(hea q' hq').1, (hea q' hq').2.1, (hea q' hq').2.2, fun y => ?_⟩ }⟩, items_of t3 (by rw [hm, hl']) fun i hi => hgr i hi⟩
        · refine ret_go (tup_go (cons_any ⟨_, rfl, Sx, seatL p l n, rfl, .inl ⟨Evl.sq_of (e7 _ _ gS6), fun S hS' => cons_any ⟨_, rfl, Nr, (R0 :: rs').map V.ref, rfl, .inl ⟨Evl.sq_of ?_, fun N hN' => ⟨by show 2 ≤ sizeLine; decide, fun A hA => ?_⟩⟩⟩⟩⟩))
          · exact Evl.Ex.new hS' _ _ (e7 _ _ hNr6)
          · have x1 : Evl.Ex H7 (upd H7 S (.tup (seatL p l n))) := Evl.Ex.new hS'
            have x2 : Evl.Ex (upd H7 S (.tup (seatL p l n))) (upd (upd H7 S (.tup (seatL p l n))) N (.tup ((R0 :: rs').map V.ref))) := Evl.Ex.new hN'
            have x3 : Evl.Ex (upd (upd H7 S (.tup (seatL p l n))) N (.tup ((R0 :: rs').map V.ref))) (upd (upd (upd H7 S (.tup (seatL p l n))) N (.tup ((R0 :: rs').map V.ref))) A (.tup [.ref S, .ref N])) := Evl.Ex.new hA
            exact qy _ (hr1 _ hRd) A _ (((((gH.trans e6).trans e7).trans x1).trans x2).trans x3) ⟨S, N, upd_same, x3 _ _ (x2 _ _ upd_same), R0 :: rs', x3 _ _ upd_same, hrs.ex (((e6.trans e7).trans x1).trans (x2.trans x3))⟩
        · rcases List.mem_cons.mp hq' with rfl | h
          · exact v3
          · exact absurd (pcs_in.mpr (List.mem_map.mpr ⟨q', h, y⟩)) v1
end
end P60
end S_Kl
section S_Km
namespace P60
open PySem PySem.Spec PyProof.Rows L2 Tl Hk
theorem kept_mut {t p : Addr} {H H' : Hp} {o : HO} (k : Kept t H H') (h : H p = none) : Kept t H (upd H' p o) := fun a u n e => by
  rw [upd_ne (ne_of_none e h)]
  exact k a u n e
theorem kept_fresh {t c p : Addr} {n n' : Nat} {H H' : Hp} (k : Kept t H H') (T : Tub H t c n) (T' : Tub H' t c n') (h : H' p = none) : H p = none := by
  cases e : H p with
  | none => rfl
  | some o =>
    have := k p o (T'.ne h).1 e
    rw [h] at this
    cases this
def SgOk (l : Nat) (b : List Bool) : Prop := b.length = 9 ∧ (l = 0 → b.take 3 = f3)
theorem scLSigns : FnScope ["tagger", "layer", "lane", "found", "at", "is_barred"] ["tagger", "layer", "lane"] (defScope sLSigns) := ⟨rfl, rfl, rfl, by decide +kernel, rfl, by decide +kernel, by decide +kernel⟩
def chS (b : Bool) : Str := ⟨#[sg b]⟩
theorem ch0 : ("0" : Str) = chS false := by decide
theorem ch1 : ("1" : Str) = chS true := by decide
theorem joinL_ch : ∀ bs : List Bool, TL.joinL [] (bs.map fun b => [sg b]) = bs.map sg
  | [] => rfl
  | [b] => rfl
  | b :: d :: r => by
    have ih := joinL_ch (d :: r)
    show [sg b] ++ ([] ++ TL.joinL [] ((d :: r).map fun b => [sg b])) = _
    rw [ih]
    rfl
theorem join_ch (bs : List Bool) : Txt.join "" (bs.map chS) = sS bs := by
  have h : TL.tl (Txt.join "" (bs.map chS)) = bs.map sg := by
    rw [TL.join_eq, TL.tl_join, List.map_map]
    exact joinL_ch bs
  rw [← TL.mk_tl (Txt.join "" (bs.map chS)), h]
  rfl
def barB (l : Nat) (x : V) (j : Nat) : Bool := (decide (l = 0) && decide (j < 3)) || (match x with | .int m => decide ((j : Int) = 3 + m) | _ => false)
def Bars (l : Nat) (x : V) (k : Nat) (b : List Bool) : Prop := b.length = k ∧ ∀ j, j < k → barB l x j = true → b.getD j false = false
theorem Bars.sg {l : Nat} {x : V} {b : List Bool} (h : Bars l x 9 b) : SgOk l b := by
  refine ⟨h.1, fun hl => ?_⟩
  have hb : ∀ j, j < 3 → b.getD j false = false := fun j hj => h.2 j (by omega) (by unfold barB; rw [decide_eq_true hl, decide_eq_true hj]; rfl)
  have h0 := hb 0 (by omega)
  have h1 := hb 1 (by omega)
  have h2 := hb 2 (by omega)
  have hlen := h.1
  match b, hlen, h0, h1, h2 with
  | a0 :: a1 :: a2 :: r, _, h0, h1, h2 =>
    have h0 : a0 = false := h0
    have h1 : a1 = false := h1
    have h2 : a2 = false := h2
    subst h0 h1 h2
    rfl
theorem Bars.snoc {l : Nat} {x : V} {k : Nat} {b : List Bool} {y : Bool} (h : Bars l x k b) (hy : barB l x k = true → y = false) : Bars l x (k + 1) (b ++ [y]) := by
  refine ⟨by rw [List.length_append, h.1, List.length_singleton], fun j hj hb => ?_⟩
  rw [List.getD_eq_getElem?_getD]
  rcases Nat.lt_or_ge j k with z | z
  · rw [List.getElem?_append_left (by rw [h.1]; exact z), ← List.getD_eq_getElem?_getD]
    exact h.2 j z hb
  · have e : j = k := by omega
    subst e
    rw [List.getElem?_append_right (by rw [h.1]; exact Nat.le_refl _), h.1, Nat.sub_self]
    exact hy hb
def LaneV (x : V) : Prop := x = .non ∨ ∃ m : Nat, m < 3 ∧ x = .int (m : Int)
def spSigns : Sp := fun vs H Q _ => ∃ (t c : Addr) (n l : Nat) (x : V), vs = [.ref t, .int (l : Int), x] ∧ LaneV x ∧ l < 1000 ∧ Tub H t c n ∧ n ≤ 100000 ∧ ∀ b H', Bars l x 9 b → Kept t H H' → Tub H' t c (n + 9) → Q (.str (sS b)) H'
section
variable {P : Program} {w : World} {K : PySem.W.Frag} {mg : Str → Option Value} {base : Heap}
set_option maxHeartbeats 1000000 in
theorem ok_signs {f fS : Addr} {fd fdS : FuncData} {k : Nat} (F : Fun K "_law_signs" "_law_signs" sLSigns f fd)
    (FS : Fun K "_law_stamp" "_law_stamp" sScoop fS fdS) (GS : FnOk P w K mg base CX0 k fS fdS ["tagger", "many"] spScoop) (bS : Binds K fdS ["tagger", "many"] []) (gS : mg "_law_stamp" = some (.ref fS)) (mrange : mg "range" = none) :
    FnOk P w K mg base CX0 (k + 1) f fd ["tagger", "layer", "lane"] spSigns := by
  refine F.ok scLSigns (fun vs H Q E h => ?_) (fun cdv A outer s H vs Q E hr h => ?_)
  · obtain ⟨t, c, n, l, x, rfl, _⟩ := h
    rfl
  · obtain ⟨t, c, n, l, x, rfl, hx, hl, T, hn, q⟩ := h
    have nd := scLSigns.nd
    refine ⟨_, pss_cons (ps_set (i := 3) nd rfl (.inl rfl) (pe_lst pa_nil))
      (pss_cons (ps_for PassesOwn.never rfl (pi_range1 (by rfl) mrange (pa_cons pe_int pa_nil)) (pg_name (i := 4) nd rfl (Or.inl rfl))
          (pss_cons (ps_set (i := 5) nd rfl (.inl rfl) (pe_or (pe_and (pe_cmpR op_eq (pv 1) pe_int (nomark _)) (pe_one (pe_cmpR op_lt (pv 4) pe_int (nomark _)))) (pe_one (pe_and (pe_cmpR op_notN (pv 2) pe_non (nomark _)) (pe_one (pe_cmpR op_eq (pv 4) (pe_op op_add pe_int (pv 2)) (nomark _)))))))
          (pss_one (ps_expr (pe_bm PySem.F.plainAttrs_list PySem.F.slot_list_append PySem.F.type_list_append mt_append (pv 3) (pa_cons (pe_ifExp (PW.pt (pw_or (pt_val (pv 5)) (pw_or1 (pt_cmpR op_eq (pe_call GS hr (by rfl) gS FS.kp bS .nil pass0 (pa_cons (pv 0) (pa_cons pe_int pa_nil))) pe_int (nomark _))))) pe_str pe_str) pa_nil))))))
      (pss_one (ps_ret (pe_bm PySem.F.plainAttrs_str PySem.F.slot_str_join PySem.F.type_str_join mt_join pe_str (pa_cons (pv 3) pa_nil))))), ?_⟩
    refine Evl.q_asgL (xs := []) (Evl.el_lst Evl.ea_nil (Nat.zero_le _)) fun D H1 hD e1 h1 => ?_
    have Dt := (T.ne hD).1
    refine Evl.q_forR1 (n := 9) (Evl.ea_cons Evl.ev_c Evl.ea_nil) ⟨by decide, by decide⟩ (fun i σ' H' => ∃ bs y4 y5, σ' = [some (.ref t), some (.int (l : Int)), some x, some (.ref D), y4, y5] ∧ Bars l x i bs ∧ H' D = some (.lst ((bs.map chS).map V.str)) ∧ Kept t H H' ∧ Tub H' t c (n + i))
      (fun H2 e2 => ⟨[], _, _, rfl, ⟨rfl, fun j hj => absurd hj (Nat.not_lt_zero j)⟩, e2 _ _ h1, kept_ex (e1.trans e2), T.ex (e1.trans e2)⟩) (fun i σ' H' hi p => ?_) (fun σ' H' p => ?_)
    · obtain ⟨bs, y4, y5, rfl, hb, hD', k', T'⟩ := p
      have hi : i < 9 := by omega
      refine Evl.q_asg (v := .bl (barB l x i)) ?_ fun H2 e2 => ?_
      · have b1 : ∀ G, Evl.Ev (tAndV (tOp rEq (tVar 1) (tC (.int 0))) (tOp (rI0 fun i j => .bl (decide (i < j))) (tVar 4) (tC (.int 3)))) [some (.ref t), some (.int (l : Int)), some x, some (.ref D), some (.int (i : Int)), y5] G (.bl (decide (l = 0) && decide (i < 3))) := fun G =>
          Evl.ev_andV (Evl.ev_is (Evl.ev_op (Evl.ev_var rfl) Evl.ev_c (Evl.rv_eq rfl)) (congrArg V.bl (decide_eq_decide.mpr ⟨fun z => by have := V.int.inj z; omega, fun z => by rw [z]; rfl⟩))) fun _ => Evl.ev_is (Evl.ev_op (Evl.ev_var rfl) Evl.ev_c Evl.rv_I0) (congrArg V.bl (decide_eq_decide.mpr ⟨fun z => by omega, fun z => by omega⟩))
        rcases hx with rfl | ⟨m, hm, rfl⟩
        · exact Evl.ev_orV (b1 _) fun _ => Evl.ev_is (Evl.ev_andV (a := false) (b := false) (Evl.ev_is (Evl.ev_op (x := .non) (y := .non) (z := .bl false) (Evl.ev_var rfl) Evl.ev_c fun G eG Q' q' => ⟨rfl, q' G (Evl.Ex.refl _)⟩) rfl) fun z => nomatch z) rfl
        · exact Evl.ev_orV (b1 _) fun _ => Evl.ev_is (Evl.ev_andV (a := true) (b := decide ((i : Int) = 3 + (m : Int))) (Evl.ev_is (Evl.ev_op (x := .int (m : Int)) (y := .non) (z := .bl true) (Evl.ev_var rfl) Evl.ev_c fun G eG Q' q' => ⟨rfl, q' G (Evl.Ex.refl _)⟩) rfl) fun _ => Evl.ev_is (Evl.ev_op (Evl.ev_var rfl) (Evl.ev_op Evl.ev_c (Evl.ev_var rfl) Evl.rv_I0) (Evl.rv_eq rfl)) (congrArg V.bl (decide_eq_decide.mpr ⟨fun z => V.int.inj z, fun z => by rw [z]⟩))) (by rw [Bool.true_and])
      · have T2 := T'.ex e2
        have k2 := k'.trans (kept_ex e2)
        have hD2 := e2 _ _ hD'
        have fin : ∀ (y : Bool) H5, Kept t H2 H5 → Tub H5 t c (n + (i + 1)) → (barB l x i = true → y = false) → rAppend (.ref D) [.str (chS y)] H5 (fun _ H6 => ∃ bs y4 y5, ([some (.ref t), some (.int (l : Int)), some x, some (.ref D), some (.int (i : Int)), some (.bl (barB l x i))] : L2.St) = [some (.ref t), some (.int (l : Int)), some x, some (.ref D), y4, y5] ∧ Bars l x (i + 1) bs ∧ H6 D = some (.lst ((bs.map chS).map V.str)) ∧ Kept t H H6 ∧ Tub H6 t c (n + (i + 1))) := fun y H5 k5 T5 hy => by
          refine ⟨D, _, _, rfl, rfl, k5 _ _ Dt hD2, Evl.sz_lt (by rw [List.length_map, List.length_map, hb.1]; omega), bs ++ [y], _, _, rfl, hb.snoc hy, ?_, kept_mut (k2.trans k5) hD, T5.upd Dt (T.ne hD).2⟩
          rw [upd_same, List.map_append, List.map_append]
          rfl
        refine ⟨_, rfl, Or.inl ⟨rfl, _, Evl.sq_of hD2⟩, _, rfl, _, rfl, if_go (fun hb2 => if_go (fun _ => ?_) (fun z => nomatch z)) (fun hb2 => ?_)⟩
        · have := fin false H2 (Kept.refl _ _) (T2.mono (by omega)) fun _ => rfl
          exact this
        · refine ⟨_, rfl, t, c, 2, n + i, rfl, T2, by omega, by omega, by omega, fun r H5 r0 r1 k5 T5 => ⟨rfl, _, rfl, if_go (fun _ => ?_) (fun _ => ?_)⟩⟩
          · exact fin false H5 k5 T5 fun _ => rfl
          · exact fin true H5 k5 T5 fun z => by rw [hb2] at z; cases z
    · obtain ⟨bs, y4, y5, rfl, hb, hD', k', T'⟩ := p
      have hb : Bars l x 9 bs := hb
      refine Evl.s_ret (v := .str (sS bs)) (fun G eG Q' q' => ⟨rfl, ⟨_, rfl, "", D, bs.map chS, rfl, rfl, .inl (Evl.sq_of (eG _ _ hD')), ?_, ?_⟩⟩) fun G eG => q bs G hb (k'.trans (kept_ex eG)) (T'.ex eG)
      · have := sum_le (ps := bs.map chS) (m := 1) fun s hs => by
          obtain ⟨b, _, rfl⟩ := List.mem_map.mp hs
          exact Nat.le_refl _
        rw [List.length_map, hb.1] at this
        show ((bs.map chS).map (·.length)).sum + (bs.map chS).length * 0 ≤ _
        omega
      · rw [join_ch]
        exact q' G (Evl.Ex.refl _)
end
end P60
end S_Km
section S_Kn
namespace P60
open PySem PySem.Spec PyProof.Rows L2 Tl Hk
theorem RowsP.snoc {H : Hp} {rs : List Addr} {near : List (Nat × List Bool)} {r : Addr} {q : Nat × List Bool} (h : RowsP H rs near) (hr : PairAt H r q) : RowsP H (rs ++ [r]) (near ++ [q]) := by
  obtain ⟨hl, h⟩ := h
  refine ⟨by rw [List.length_append, List.length_append, hl]; rfl, fun i r' q' a b => ?_⟩
  rcases Nat.lt_or_ge i rs.length with z | z
  · rw [List.getElem?_append_left z] at a
    rw [List.getElem?_append_left (by omega)] at b
    exact h i r' q' a b
  · rw [List.getElem?_append_right z] at a
    rw [List.getElem?_append_right (by omega), ← hl] at b
    rcases Nat.lt_or_ge (i - rs.length) 1 with y | y
    · have e : i - rs.length = 0 := by omega
      rw [e] at a b
      cases a
      cases b
      exact hr
    · rw [List.getElem?_eq_none (by rw [List.length_singleton]; exact y)] at a
      cases a
theorem RowsP.cons {H : Hp} {rs : List Addr} {near : List (Nat × List Bool)} {r : Addr} {q : Nat × List Bool} (h : RowsP H rs near) (hr : PairAt H r q) : RowsP H (r :: rs) (q :: near) := by
  refine ⟨by rw [List.length_cons, List.length_cons, h.1], fun i r' q' a b => ?_⟩
  cases i with
  | zero => cases a; cases b; exact hr
  | succ i => exact h.2 i r' q' (by simpa using a) (by simpa using b)
theorem RowsP.mono {H H' : Hp} {rs : List Addr} {near : List (Nat × List Bool)} (h : RowsP H rs near) (e : ∀ r q, PairAt H r q → PairAt H' r q) : RowsP H' rs near := ⟨h.1, fun i r q a b => e _ _ (h.2 i r q a b)⟩
theorem pair_upd {H : Hp} {D : Addr} {l l' : List V} (h : H D = some (.lst l)) (r : Addr) (q : Nat × List Bool) (hp : PairAt H r q) : PairAt (upd H D (.lst l')) r q := by
  have hp : H r = some (.tup [.int (q.1 : Int), .str (sS q.2)]) := hp
  have ne : r ≠ D := fun z => by rw [z, h] at hp; cases hp
  show upd H D _ r = _
  rw [upd_ne ne]
  exact hp
theorem pair_kept {H H' : Hp} {t c : Addr} {n : Nat} (T : Tub H t c n) (k : Kept t H H') (r : Addr) (q : Nat × List Bool) (hp : PairAt H r q) : PairAt H' r q := by
  have hp : H r = some (.tup [.int (q.1 : Int), .str (sS q.2)]) := hp
  refine k r _ (fun z => ?_) hp
  obtain ⟨cs, turn, rest, h1, _⟩ := T
  rw [z, h1] at hp
  cases hp
theorem tub_at {H : Hp} {t c : Addr} {n : Nat} (T : Tub H t c n) : ∃ o, H t = some o := by
  obtain ⟨cs, turn, rest, h1, _⟩ := T
  exact ⟨_, h1⟩
/-- [(piece, _law_signs(clerk, layer, None)) for piece in ..] -/
theorem go_rows {K : PySem.W.Frag} {σ : L2.St} {H : Hp} {Q : VK} {t c O : Addr} {n l i0 io j : Nat} {tl : TE} {ps : List Nat} (T : Tub H t c n) (hn : n + 9 * ps.length ≤ 100000) (hl : l < 1000)
    (h0 : ((wipe σ [j]))[i0]? = some (some (.ref t))) (ho : σ[io]? = some (some (.ref O))) (hO : H O = some (.lst (ps.map fun p : Nat => V.int (p : Int)))) (hOt : O ≠ t)
    (hw : ∀ x, wipe ((wipe σ [j]).set j x) [j] = wipe σ [j]) (hj : ∀ x, ((wipe σ [j]).set j (some x))[j]? = some (some x)) (h0' : ∀ x, ((wipe σ [j]).set j (some x))[i0]? = some (some (.ref t)))
    (hv : ∀ x A, Kept t H A → Evl.Ev tl ((wipe σ [j]).set j (some x)) A (.int (l : Int)))
    (hd : ∀ D rs bl A, H D = none → D ≠ t → A D = some (.lst (rs.map V.ref)) → bl.map (·.1) = ps → RowsP A rs bl → (∀ q ∈ bl, SgOk l q.2) → Kept t H A → Tub A t c (n + 9 * ps.length) → Q (.ref D) A) :
    tLc (iList K (tVar io)) (gName j) tYes (tTup (tCons (tVar j) (tCons (tCall spSigns [] E0 (tCons (tVar i0) (tCons tl (tCons (tC .non) tNil)))) tNil))) [j] σ H Q := by
  obtain ⟨o, ht⟩ := tub_at T
  have hb : but t H O = some (.lst (ps.map fun p : Nat => V.int (p : Int))) := by rw [but_at hOt]; exact hO
  have hlen : (ps.map fun p : Nat => V.int (p : Int)).length = ps.length := List.length_map _
  refine go_lcT ht (ei_list (K := K) (Evl.ev_var ho) (Evl.sq_of hb)) (aims_at (j := j)) (fun _ => hw _) (by omega)
    (fun i acc A => ∃ rs bl, acc = rs.map V.ref ∧ bl.map (·.1) = ps.take i ∧ RowsP A rs bl ∧ (∀ q ∈ bl, SgOk l q.2) ∧ Tub A t c (n + 9 * i))
    (fun H2 e2 => ⟨[], [], rfl, by rw [List.take_zero]; rfl, ⟨rfl, (fun i r q a _ => by simp at a)⟩, (fun q hq => by cases hq), T.ex e2⟩)
    (fun i acc A B ⟨rs, bl, a1, a2, a3, a4, a5⟩ e => ⟨rs, bl, a1, a2, a3.ex e, a4, a5.ex e⟩)
    (fun i acc A D l1 l2 D0 Dt hD ⟨rs, bl, a1, a2, a3, a4, a5⟩ => ⟨rs, bl, a1, a2, a3.mono (pair_upd hD), a4, a5.upd Dt (T.ne D0).2⟩)
    (fun i acc A F1 F2 hi kA hacc ⟨rs, bl, a1, a2, a3, a4, a5⟩ f1 f2 => ?_) (fun D acc A D0 Dt hD hle kA ⟨rs, bl, a1, a2, a3, a4, a5⟩ => ?_)
  · rw [hlen] at hi
    have gi : (ps.map fun p : Nat => V.int (p : Int)).getD i .non = .int ((ps[i] : Nat) : Int) := by
      rw [List.getD_eq_getElem?_getD, List.getElem?_map, List.getElem?_eq_getElem hi]
      rfl
    rw [gi]
    refine yes_at (P := fun H3 => _) ?_
    refine ⟨_, hj _, cons_any (call_go (Evl.ea_cons (Evl.ev_var (h0' _)) (Evl.ea_cons (hv _ _ kA) (Evl.ea_cons Evl.ev_c Evl.ea_nil))) fun A2 e2 => ⟨t, c, n + 9 * i, l, .non, rfl, .inl rfl, hl, a5.ex e2, by omega, fun b H4 hb4 k4 T4 => ⟨by show 2 ≤ sizeLine; decide, fun R hR => ?_⟩⟩)⟩
    have k24 : ∀ a o, a ≠ t → A a = some o → upd H4 R (.tup [.int ((ps[i] : Nat) : Int), .str (sS b)]) a = some o := fun a o ha h => by
      have := k4 a o ha (e2 _ _ h)
      rw [upd_ne (ne_of_none this hR)]
      exact this
    refine f1 (.ref R) _ k24 ⟨rs ++ [R], bl ++ [(ps[i], b)], by rw [a1, List.map_append]; rfl, by rw [List.map_append, a2, List.take_succ_eq_append_getElem hi]; rfl, ?_, ?_, ?_⟩
    · refine RowsP.snoc (a3.mono fun r q hp => pair_kept a5 k24 r q hp) ?_
      exact upd_same
    · intro q hq
      rcases List.mem_append.mp hq with hq | hq
      · exact a4 q hq
      · obtain rfl := List.mem_singleton.mp hq
        exact hb4.sg
    · refine Tub.mono (T4.same (same_new hR)) (by omega)
  · rw [hlen] at a2 a5
    rw [List.take_length] at a2
    rw [a1] at hD
    exact hd D rs bl A D0 Dt hD a2 a3 a4 kA a5
end P60
end S_Kn
section S_Ko
namespace P60
open PySem PySem.Spec PyProof.Rows L2 Tl Hk
abbrev SeatAt (H : Hp) (S : Addr) (p l n : Nat) : Prop := H S = some (.tup (seatL p l n))
theorem ev_at {K : PySem.W.Frag} {σ : L2.St} {H : Hp} {te : TE} {a : Addr} {xs : List V} {j : Nat} {v : V} (h : Evl.Ev te σ H (.ref a)) (ha : H a = some (.tup xs)) (hv : xs[j]? = some v) : Evl.Ev (tOp (rIxT K) te (tC (.int (j : Int)))) σ H v := Evl.ev_op h Evl.ev_c (Evl.rv_ixT (Evl.st_of ha) (atI_nat hv))
theorem scLLabel : FnScope ["tagger", "seat", "others", "near", "piece"] ["tagger"] (defScope sLLabel) := ⟨rfl, rfl, rfl, by decide +kernel, rfl, by decide +kernel, by decide +kernel⟩
structure Lb.Dr (L : Lb) : Prop where
  ok : L.Ok
  hp : L.p ∈ nums
  hl : L.l ∈ nums
  near : ∀ q ∈ L.near, q.1 ∈ nums
theorem nums_lt : ∀ k ∈ nums, k ≤ 999 := by decide
theorem Lb.Dr.item {L : Lb} (h : L.Dr) {s : Str} (hs : s ∈ items L) : Item s := by
  have di : ∀ {k : Nat}, k ∈ nums → Item (dS k) := fun {k} hk => .inl (List.mem_append.mpr (.inr (List.mem_map.mpr ⟨k, hk, rfl⟩)))
  unfold items at hs
  rcases List.mem_append.mp hs with hs | hs
  · have hn := h.ok.hn
    simp only [List.mem_cons, List.not_mem_nil, or_false] at hs
    rcases hs with rfl | rfl | rfl
    · exact di h.hp
    · exact di h.hl
    · exact di (by
        have : ∀ k, k < 3 → k ∈ nums := by decide
        exact this _ hn)
  · obtain ⟨g, hg, hs⟩ := List.mem_flatten.mp hs
    obtain ⟨q, hq, rfl⟩ := List.mem_map.mp hg
    unfold gi at hs
    simp only [List.mem_cons, List.not_mem_nil, or_false] at hs
    rcases hs with rfl | rfl | rfl
    · exact .inl (by decide)
    · exact di (h.near q hq)
    · exact .inr ⟨q.2, (h.ok.near.each q hq).2.1, rfl⟩
theorem Lb.Dr.its {L : Lb} (h : L.Dr) : Its (items L) := ⟨by unfold items; simp, by rw [items_len]; have := h.ok.near.len; omega, fun s hs => h.item hs⟩
def spLabel : Sp := fun vs H Q _ => ∃ (t c : Addr) (n : Nat), vs = [.ref t] ∧ Tub H t c n ∧ n ≤ 50000 ∧ ∀ A L H', L.Dr → LabAt H' A L → Kept t H H' → Tub H' t c (n + 60) → Q (.ref A) H'
theorem lb_each {p l n : Nat} {b : List Bool} {bl : List (Nat × List Bool)} (hp : p ∈ nums) (hn : n < 3) (hb : Bars l (.int (n : Int)) 9 b) (h3 : p ∉ bl.map (·.1)) (h4 : ∀ k ∈ bl.map (·.1), k ∈ nums) (h5 : ∀ q ∈ bl, SgOk l q.2) : ∀ q ∈ (p, b) :: bl, PieceP p l n q := fun q hq => by
  rcases List.mem_cons.mp hq with rfl | hq
  · refine ⟨nums_lt _ hp, hb.sg.1, hb.sg.2, fun _ => hb.2 (3 + n) (by omega) ?_⟩
    unfold barB
    have : decide (((3 + n : Nat) : Int) = 3 + (n : Int)) = true := decide_eq_true (by omega)
    show (_ || decide (((3 + n : Nat) : Int) = 3 + (n : Int))) = true
    rw [this, Bool.or_true]
  · exact ⟨nums_lt _ (h4 _ (List.mem_map.mpr ⟨q, hq, rfl⟩)), (h5 q hq).1, (h5 q hq).2, fun e => absurd (List.mem_map.mpr ⟨q, hq, e⟩) h3⟩
theorem lb_dr {p l n : Nat} {b : List Bool} {bl : List (Nat × List Bool)} (hp : p ∈ nums) (hl : l ∈ nums) (hn : n < 3) (hb : Bars l (.int (n : Int)) 9 b) (h1 : bl.length ≤ 3) (h2 : (bl.map (·.1)).Pairwise (· < ·)) (h3 : p ∉ bl.map (·.1)) (h4 : ∀ k ∈ bl.map (·.1), k ∈ nums) (h5 : ∀ q ∈ bl, SgOk l q.2) : Lb.Dr ⟨p, l, n, (p, b) :: bl⟩ :=
  ⟨⟨nums_lt _ hp, nums_lt _ hl, hn, ⟨Nat.succ_le_succ h1, ⟨b, bl, rfl, h2, h3⟩, lb_each hp hn hb h3 h4 h5⟩⟩, hp, hl, fun q hq => by
    rcases List.mem_cons.mp hq with rfl | hq
    · exact hp
    · exact h4 _ (List.mem_map.mpr ⟨q, hq, rfl⟩)⟩
abbrev oth : List Nat := [0, 1, 2, 3, 5, 10, 77, 998]
abbrev teOthers (K : PySem.W.Frag) : TE := tLc (iList K (tLst (tCons (tC (.int 0)) (tCons (tC (.int 1)) (tCons (tC (.int 2)) (tCons (tC (.int 3)) (tCons (tC (.int 5)) (tCons (tC (.int 10)) (tCons (tC (.int 77)) (tCons (tC (.int 998)) tNil)))))))))) (gName 4) (tAnd (tTest (tOp rNe (tVar 4) (tOp (rIxT K) (tVar 1) (tC (.int 0))))) (tTest (tOp rEq (tCall spScoop [] E0 (tCons (tVar 0) (tCons (tC (.int 3)) tNil))) (tC (.int 0))))) (tVar 4) [4]
section
variable {P : Program} {w : World} {K : PySem.W.Frag} {mg : Str → Option Value} {base : Heap}
theorem oth_lt : ∀ i, i < 8 → oth.getD i 1000 < oth.getD (i + 1) 1000 := by decide
theorem oth_in : ∀ i, i < 8 → oth.getD i 1000 ∈ oth ∧ oth.getD i 1000 = oth.getD i 0 := by decide
theorem go_others {σ : L2.St} {H : Hp} {Q : VK} {t c S : Addr} {n p l m : Nat} (T : Tub H t c n) (hn : n ≤ 60000) (hS : SeatAt H S p l m) (h0 : σ = [some (.ref t), some (.ref S), none, none, none])
    (hd : ∀ (D : Addr) (ps : List Nat) (A : Hp), H D = none → D ≠ t → A D = some (.lst (ps.map fun k : Nat => V.int (k : Int))) → ps.Pairwise (· < ·) → (∀ k ∈ ps, k ∈ oth ∧ k ≠ p) → ps.length ≤ 8 → Kept t H A → Tub A t c (n + 8) → Q (.ref D) A) : teOthers K σ H Q := by
  subst h0
  obtain ⟨o, ht⟩ := tub_at T
  have St : S ≠ t := fun z => by
    obtain ⟨cs, turn, rest, h1, _⟩ := T
    have hS : H S = _ := hS
    rw [z, h1] at hS
    cases hS
  refine go_lcT (n := (oth.map fun k : Nat => V.int (k : Int)).length) ht (ei_listN (K := K) (xs := oth.map fun k : Nat => V.int (k : Int)) (Evl.el_lst (Evl.ea_cons Evl.ev_c (Evl.ea_cons Evl.ev_c (Evl.ea_cons Evl.ev_c (Evl.ea_cons Evl.ev_c (Evl.ea_cons Evl.ev_c (Evl.ea_cons Evl.ev_c (Evl.ea_cons Evl.ev_c (Evl.ea_cons Evl.ev_c Evl.ea_nil)))))))) (by show 8 ≤ 100000; decide))) (aims_at (j := 4)) (fun _ => rfl) (by show 8 ≤ 40000; decide)
    (fun i acc A => ∃ ps : List Nat, acc = ps.map (fun k : Nat => V.int (k : Int)) ∧ ps.Pairwise (· < ·) ∧ (∀ k ∈ ps, (k ∈ oth ∧ k ≠ p) ∧ k < oth.getD i 1000) ∧ ps.length ≤ i ∧ Tub A t c (n + i))
    (fun H2 e2 => ⟨[], rfl, List.Pairwise.nil, (fun k hk => by cases hk), Nat.le_refl _, T.ex e2⟩)
    (fun i acc A B ⟨ps, a1, a2, a3, a4, a5⟩ e => ⟨ps, a1, a2, a3, a4, a5.ex e⟩)
    (fun i acc A D l1 l2 D0 Dt hD ⟨ps, a1, a2, a3, a4, a5⟩ => ⟨ps, a1, a2, a3, a4, a5.upd Dt (T.ne D0).2⟩)
    (fun i acc A F1 F2 hi kA hacc ⟨ps, a1, a2, a3, a4, a5⟩ f1 f2 => ?_) (fun D acc A D0 Dt hD hle kA ⟨ps, a1, a2, a3, a4, a5⟩ => ?_)
  · have hi : i < 8 := hi
    have hlt := oth_lt i hi
    obtain ⟨hin, he0⟩ := oth_in i hi
    have gv : (oth.map fun k : Nat => V.int (k : Int)).getD i .non = .int ((oth.getD i 1000 : Nat) : Int) := by
      have : ∀ i, i < 8 → (oth.map fun k : Nat => (k : Int)).getD i 5 = ((oth.getD i 1000 : Nat) : Int) := by decide
      rw [List.getD_eq_getElem?_getD, List.getElem?_map, List.getD_eq_getElem?_getD, List.getElem?_eq_getElem (show i < oth.length from hi)]
      rfl
    have hSA : A S = some (.tup [.int (p : Int), .int (l : Int), .int (m : Int)]) := kA _ _ St hS
    rw [gv]
    obtain ⟨ki, hki⟩ : ∃ ki, oth.getD i 1000 = ki := ⟨_, rfl⟩
    rw [hki] at hlt hin ⊢
    have skip : ∀ G, (∀ a o, a ≠ t → A a = some o → G a = some o) → Tub G t c (n + (i + 1)) → F2 G := fun G k TG => f2 G k ⟨ps, a1, a2, fun k hk => ⟨(a3 k hk).1, Nat.lt_trans (a3 k hk).2 (oth_lt i hi)⟩, Nat.le_succ_of_le a4, TG⟩
    refine (Evl.et_test (Evl.ev_op (x := .int (ki : Int)) (y := .int (p : Int)) (Evl.ev_var rfl) (ev_at (j := 0) (Evl.ev_var rfl) hSA rfl) (Evl.rv_ne rfl))) A (Evl.Ex.refl _) _ fun A1 e1 => if_go (fun hb => ?_) (fun hb => if_go (fun z => nomatch z) fun _ => skip A1 (fun a o _ h => e1 _ _ h) ((a5.ex e1).mono (by omega)))
    have ip : ki ≠ p := fun z => by
      rw [Bool.not_eq_true', decide_eq_false_iff_not] at hb
      exact hb (by rw [z])
    refine ⟨_, rfl, t, c, 3, n + i, rfl, a5.ex e1, by omega, by omega, by omega, fun r G r0 r1 k2 T2 => ⟨rfl, _, rfl, if_go (fun _ => ⟨_, rfl, f1 _ G (fun a o ha h => k2 a o ha (e1 _ _ h)) ⟨ps ++ [ki], ?_, ?_, ?_, ?_, T2⟩⟩) (fun _ => skip G (fun a o ha h => k2 a o ha (e1 _ _ h)) T2)⟩⟩
    · rw [a1, List.map_append, List.map_cons, List.map_nil]
    · refine List.pairwise_append.mpr ⟨a2, List.pairwise_singleton _ _, fun x hx y hy => ?_⟩
      obtain rfl := List.mem_singleton.mp hy
      have := (a3 x hx).2
      rw [hki] at this
      exact this
    · intro k hk
      rcases List.mem_append.mp hk with hk | hk
      · exact ⟨(a3 k hk).1, Nat.lt_trans (a3 k hk).2 (oth_lt i hi)⟩
      · obtain rfl := List.mem_singleton.mp hk
        exact ⟨⟨hin, ip⟩, hlt⟩
    · rw [List.length_append, List.length_singleton]
      omega
  · rw [a1] at hD
    exact hd D ps A D0 Dt hD a2 (fun k hk => (a3 k hk).1) a4 kA a5
set_option maxHeartbeats 1000000 in
theorem ok_label {f fS fG fP : Addr} {fd fdS fdG fdP : FuncData} {k : Nat} (F : Fun K "_law_label" "_law_label" sLLabel f fd)
    (FS : Fun K "_law_stamp" "_law_stamp" sScoop fS fdS) (GS : FnOk P w K mg base CX0 k fS fdS ["tagger", "many"] spScoop) (bS : Binds K fdS ["tagger", "many"] []) (gS : mg "_law_stamp" = some (.ref fS))
    (FG : Fun K "_law_signs" "_law_signs" sLSigns fG fdG) (GG : FnOk P w K mg base CX0 k fG fdG ["tagger", "layer", "lane"] spSigns) (bG : Binds K fdG ["tagger", "layer", "lane"] []) (gG : mg "_law_signs" = some (.ref fG)) (FP : Fun K "_law_one_of" "_law_one_of" sPick fP fdP) (GP : FnOk P w K mg base CX0 k fP fdP ["tagger", "some"] (spPick K)) (bP : Binds K fdP ["tagger", "some"] []) (gP : mg "_law_one_of" = some (.ref fP)) (mtup : mg "tuple" = none) :
    FnOk P w K mg base CX0 (k + 1) f fd ["tagger"] spLabel := by
  refine F.ok scLLabel (fun vs H Q E h => ?_) (fun cdv A outer s H vs Q E hr h => ?_)
  · obtain ⟨t, c, n, rfl, _⟩ := h
    rfl
  · obtain ⟨t, c, n, rfl, T, hn, q⟩ := h
    have nd := scLLabel.nd
    refine ⟨_, pss_cons (ps_set (i := 1) nd rfl (.inr rfl) (pe_tup (pa_cons (pe_call GP hr (by rfl) gP FP.kp bP .nil pass0 (pa_cons (pv 0) (pa_cons (pe_lst (pa_cons pe_int (pa_cons pe_int (pa_cons pe_int (pa_cons pe_int (pa_cons pe_int (pa_cons pe_int (pa_cons pe_int pa_nil)))))))) pa_nil))) (pa_cons (pe_call GP hr (by rfl) gP FP.kp bP .nil pass0 (pa_cons (pv 0) (pa_cons (pe_lst (pa_cons pe_int (pa_cons pe_int (pa_cons pe_int (pa_cons pe_int (pa_cons pe_int (pa_cons pe_int (pa_cons pe_int pa_nil)))))))) pa_nil))) (pa_cons (pe_call GS hr (by rfl) gS FS.kp bS .nil pass0 (pa_cons (pv 0) (pa_cons pe_int pa_nil))) pa_nil)))))
      (pss_cons (ps_set (i := 2) nd rfl (.inl rfl) (pe_slice sl_list (pe_lc (own := [("piece", 4)]) (g := gName 4) (tt := tAnd (tTest (tOp rNe (tVar 4) (tOp (rIxT K) (tVar 1) (tC (.int 0))))) (tTest (tOp rEq (tCall spScoop [] E0 (tCons (tVar 0) (tCons (tC (.int 3)) tNil))) (tC (.int 0))))) (te := tVar 4) rfl nd (pi_list (pe_lst (pa_cons pe_int (pa_cons pe_int (pa_cons pe_int (pa_cons pe_int (pa_cons pe_int (pa_cons pe_int (pa_cons pe_int (pa_cons pe_int pa_nil)))))))))) (blkOk_by (N := ["tagger", "seat", "others", "near", "piece"]) (sc := defScope sLLabel) (by decide +kernel)) (fun _ _ _ _ _ => pg_name (i := 4) nd rfl (Or.inl rfl))
            (fun _ _ _ _ _ => pts_one (PW.pt (pw_and (pt_cmpR op_ne (pv 4) (pe_ix ix_tup (pv 1) pe_int (fun _ _ => rfl)) (nomark _)) (pw_and1 (pt_cmpR op_eq (pe_call GS hr (by rfl) gS FS.kp bS .nil pass0 (pa_cons (pv 0) (pa_cons pe_int pa_nil))) pe_int (nomark _)))))) (fun _ _ _ _ _ => pv 4)) po_none (po_some pe_int)))
      (pss_cons (ps_set (i := 3) nd rfl (.inl rfl) (pe_op op_cat (pe_lst (pa_cons (pe_tup (pa_cons (pe_ix ix_tup (pv 1) pe_int (fun _ _ => rfl)) (pa_cons (pe_call GG hr (by rfl) gG FG.kp bG .nil pass0 (pa_cons (pv 0) (pa_cons (pe_ix ix_tup (pv 1) pe_int (fun _ _ => rfl)) (pa_cons (pe_ix ix_tup (pv 1) pe_int (fun _ _ => rfl)) pa_nil)))) pa_nil))) pa_nil))
          (pe_lc (own := [("piece", 4)]) (g := gName 4) (tt := tYes) (te := tTup (tCons (tVar 4) (tCons (tCall spSigns [] E0 (tCons (tVar 0) (tCons (tOp (rIxT K) (tVar 1) (tC (.int 1))) (tCons (tC .non) tNil)))) tNil))) rfl nd (pi_list (pv 2)) (blkOk_by (N := ["tagger", "seat", "others", "near", "piece"]) (sc := defScope sLLabel) (by decide +kernel)) (fun _ _ _ _ _ => pg_name (i := 4) nd rfl (Or.inl rfl)) (fun _ _ _ _ _ => pts_nil)
            (fun _ _ _ _ _ => pe_tup (pa_cons (pv 4) (pa_cons (pe_call GG hr (by rfl) gG FG.kp bG .nil pass0 (pa_cons (pv 0) (pa_cons (pe_ix ix_tup (pv 1) pe_int (fun _ _ => rfl)) (pa_cons pe_non pa_nil)))) pa_nil))))))
      (pss_one (ps_ret (pe_tup (pa_cons (pv 1) (pa_cons (pe_callTy call_tuple_of (by rfl) mtup (by decide +kernel) (pa_cons (pv 3) pa_nil)) pa_nil))))))), ?_⟩
    have pk : ∀ {xs : List Nat} {j : Nat} {v : V}, (∀ k ∈ xs, k ∈ nums) → (xs.map fun k : Nat => V.int (k : Int))[j]? = some v → ∃ k : Nat, v = .int (k : Int) ∧ k ∈ nums := fun {xs j v} h hv => by
      obtain ⟨k, hk, rfl⟩ := List.mem_map.mp (List.mem_of_getElem? hv)
      exact ⟨k, rfl, h k hk⟩
    have i7 : ∀ {a b c d e f g : Int} {σ : L2.St} {G : Hp}, Evl.EvL (tLst (tCons (tC (.int a)) (tCons (tC (.int b)) (tCons (tC (.int c)) (tCons (tC (.int d)) (tCons (tC (.int e)) (tCons (tC (.int f)) (tCons (tC (.int g)) tNil)))))))) σ G [.int a, .int b, .int c, .int d, .int e, .int f, .int g] := Evl.el_lst (Evl.ea_cons Evl.ev_c (Evl.ea_cons Evl.ev_c (Evl.ea_cons Evl.ev_c (Evl.ea_cons Evl.ev_c (Evl.ea_cons Evl.ev_c (Evl.ea_cons Evl.ev_c (Evl.ea_cons Evl.ev_c Evl.ea_nil))))))) (by show 7 ≤ 100000; decide)
    refine asg_go (tup_go (cons_any (call_raw (cons_any ⟨_, rfl, cons_l i7 fun P1 G1 hP1 f1 x1 => ⟨t, c, P1, ([0, 1, 2, 3, 4, 3, 999] : List Nat).map (fun k : Nat => V.int (k : Int)), n, rfl, T.ex f1, by omega, (T.ne hP1).1, Evl.sq_of x1, by decide, by decide, fun j1 p H1 hp k1 T1 => ?_⟩⟩))))
    obtain ⟨p, rfl, hpn⟩ := pk (by decide) hp
    refine cons_any (call_raw (cons_any ⟨_, rfl, cons_l i7 fun P2 G2 hP2 f2 x2 => ⟨t, c, P2, ([0, 1, 2, 3, 0, 998, 999] : List Nat).map (fun k : Nat => V.int (k : Int)), n + 1, rfl, T1.ex f2, by omega, (T1.ne hP2).1, Evl.sq_of x2, by decide, by decide, fun j2 l H2 hl k2 T2 => ?_⟩⟩))
    obtain ⟨l, rfl, hln⟩ := pk (by decide) hl
    refine cons_any (call_raw ⟨_, rfl, t, c, 3, n + 2, rfl, T2, by omega, by omega, by omega, fun m H3 m0 m1 k3 T3 => ⟨by show 3 ≤ sizeLine; decide, fun S hS => ?_⟩⟩)
    obtain ⟨m, rfl⟩ : ∃ z : Nat, m = (z : Int) := ⟨m.toNat, by omega⟩
    have k1 := (kept_ex (t := t) f1).trans k1
    have k2 := (kept_ex (t := t) f2).trans k2
    have hl9 := nums_lt _ hln
    have k03 := k1.trans (k2.trans k3)
    have S0 := kept_fresh k03 T T3 hS
    have St := (T.ne S0).1
    have hS4 : SeatAt (upd H3 S (.tup [.int (p : Int), .int (l : Int), .int (m : Int)])) S p l m := upd_same
    have T4 := T3.same (same_new (o := .tup [.int (p : Int), .int (l : Int), .int (m : Int)]) hS)
    have k04 := kept_mut (o := .tup [.int (p : Int), .int (l : Int), .int (m : Int)]) k03 S0
    generalize upd H3 S (.tup [.int (p : Int), .int (l : Int), .int (m : Int)]) = H4 at hS4 T4 k04 ⊢
    refine asg_go (sl_go (go_others (K := K) (n := n + 3) T4 (by omega) hS4 rfl fun D ps A D0 Dt hD pw hk hpl kA TA => ?_))
    refine ⟨3, rfl, D, _, rfl, Evl.sq_of hD, fun O hO => ?_⟩
    dsimp only [gName]
    have k05 := k04.trans kA
    have O0 := kept_fresh k05 T TA hO
    have Ot := (T.ne O0).1
    have hO5 : upd A O (.lst (cutV (ps.map fun k : Nat => V.int (k : Int)) none (some 3))) O = some (.lst ((ps.take 3).map fun k : Nat => V.int (k : Int))) := by
      rw [upd_same, show (3 : Int) = ((3 : Nat) : Int) from rfl, cutTo', List.map_take]
    have hS5 : SeatAt (upd A O (.lst (cutV (ps.map fun k : Nat => V.int (k : Int)) none (some 3)))) S p l m := same_new hO _ _ (kA _ _ St hS4)
    have T5 := TA.same (same_new (o := .lst (cutV (ps.map fun k : Nat => V.int (k : Int)) none (some 3))) hO)
    have k06 := kept_mut (o := .lst (cutV (ps.map fun k : Nat => V.int (k : Int)) none (some 3))) k05 O0
    generalize upd A O (.lst (cutV (ps.map fun k : Nat => V.int (k : Int)) none (some 3))) = H5 at hO5 hS5 T5 k06 ⊢
    have hS5' : H5 S = some (.tup [.int (p : Int), .int (l : Int), .int (m : Int)]) := hS5
    -- the first row
    refine asg_go (op_go (lst_go (cons_any (tup_go (cons_any ((ev_at (K := K) (j := 0) (Evl.ev_var rfl) hS5' rfl) H5 (Evl.Ex.refl _) _ fun H6 e6 => ?_))))))
    have hS6 := e6 _ _ hS5'
    refine cons_any (call_go (Evl.ea_cons (Evl.ev_var rfl) (Evl.ea_cons (ev_at (j := 1) (Evl.ev_var rfl) hS6 rfl) (Evl.ea_cons (ev_at (j := 2) (Evl.ev_var rfl) hS6 rfl) Evl.ea_nil))) fun H7 e7 => ⟨t, c, n + 11, l, .int (m : Int), rfl, .inr ⟨m, by omega, rfl⟩, by omega, (T5.ex e6).ex e7, by omega, fun b H8 hb k8 T8 => ⟨by show 2 ≤ sizeLine; decide, fun R hR => ⟨by show 1 ≤ sizeLine; decide, fun L1 hL1 => ?_⟩⟩⟩)
    have k08 := (k06.trans (kept_ex (e6.trans e7))).trans k8
    have R0 := kept_fresh k08 T T8 hR
    have T9 := T8.same (same_new (o := .tup [.int (p : Int), .str (sS b)]) hR)
    have k09 := kept_mut (o := .tup [.int (p : Int), .str (sS b)]) k08 R0
    have hR9 : PairAt (upd H8 R (.tup [.int (p : Int), .str (sS b)])) R (p, b) := upd_same
    have hS9 : SeatAt (upd H8 R (.tup [.int (p : Int), .str (sS b)])) S p l m := same_new hR _ _ (k8 _ _ St (e7 _ _ hS6))
    have hO9 : upd H8 R (.tup [.int (p : Int), .str (sS b)]) O = some (.lst ((ps.take 3).map fun k : Nat => V.int (k : Int))) := same_new hR _ _ (k8 _ _ Ot (e7 _ _ (e6 _ _ hO5)))
    generalize upd H8 R (.tup [.int (p : Int), .str (sS b)]) = H9 at hL1 T9 k09 hR9 hS9 hO9 ⊢
    have L0 := kept_fresh k09 T T9 hL1
    have Lt := (T.ne L0).1
    have T10 := T9.same (same_new (o := .lst [.ref R]) hL1)
    have k010 := kept_mut (o := .lst [.ref R]) k09 L0
    have hR10 : PairAt (upd H9 L1 (.lst [.ref R])) R (p, b) := same_new hL1 _ _ hR9
    have hS10 : SeatAt (upd H9 L1 (.lst [.ref R])) S p l m := same_new hL1 _ _ hS9
    have hO10 := same_new (o := .lst [.ref R]) hL1 _ _ hO9
    have hL10 : upd H9 L1 (.lst [.ref R]) L1 = some (.lst [.ref R]) := upd_same
    generalize upd H9 L1 (.lst [.ref R]) = H10 at T10 k010 hR10 hS10 hO10 hL10 ⊢
    have tl3 : (ps.take 3).length ≤ 3 := by rw [List.length_take]; omega
    refine go_rows (K := K) (σ := [some (.ref t), some (.ref S), some (.ref O), none, none]) (i0 := 0) (io := 2) (j := 4) (l := l) (n := n + 20) (ps := ps.take 3) T10 (by omega) (by omega) rfl rfl hO10 Ot (fun _ => rfl) (fun _ => rfl) (fun _ => rfl) (fun x A hA => ev_at (j := 1) (Evl.ev_var rfl) (hA _ _ St hS10) rfl) fun D rs bl A D0 Dt hD h1 h2 h3 kA TA => ?_
    refine ⟨L1, D, [.ref R], rs.map V.ref, rfl, rfl, kA _ _ Lt hL10, hD, ?_, fun N hN => ?_⟩
    · have : rs.length ≤ 3 := by rw [h2.1, ← List.length_map, h1]; exact tl3
      refine Evl.sz_of ?_
      rw [List.length_map]
      show 1 + rs.length ≤ 100000
      omega
    dsimp only [gName]
    refine ⟨_, rfl, _, rfl, N, (R :: rs).map V.ref, rfl, .inl ⟨Evl.sq_of upd_same, fun U hU => ⟨by show 2 ≤ sizeLine; decide, fun B hB => ?_⟩⟩⟩
    have k011 := k010.trans kA
    have hRA := pair_kept T10 kA _ _ hR10
    have hSA : A S = some (.tup [.int (p : Int), .int (l : Int), .int (m : Int)]) := kA _ _ St hS10
    have N0 := kept_fresh k011 T TA hN
    have T12 := TA.same (same_new (o := .lst ([.ref R] ++ rs.map V.ref)) hN)
    have k012 := kept_mut (o := .lst ([.ref R] ++ rs.map V.ref)) k011 N0
    have n12 := same_new (o := .lst ([.ref R] ++ rs.map V.ref)) hN
    generalize upd A N (.lst ([.ref R] ++ rs.map V.ref)) = H12 at hU hB T12 k012 n12 ⊢
    have U0 := kept_fresh k012 T T12 hU
    have T13 := T12.same (same_new (o := .tup ((R :: rs).map V.ref)) hU)
    have k013 := kept_mut (o := .tup ((R :: rs).map V.ref)) k012 U0
    have n13 := same_new (o := .tup ((R :: rs).map V.ref)) hU
    have hU13 : upd H12 U (.tup ((R :: rs).map V.ref)) U = some (.tup ((R :: rs).map V.ref)) := upd_same
    generalize upd H12 U (.tup ((R :: rs).map V.ref)) = H13 at hB T13 k013 n13 hU13 ⊢
    have B0 := kept_fresh k013 T T13 hB
    have n14 := same_new (o := .tup [.ref S, .ref U]) hB
    refine q B ⟨p, l, m, (p, b) :: bl⟩ _ (lb_dr hpn hln (by omega) hb ?_ ?_ ?_ ?_ h3) ⟨S, U, upd_same, n14 _ _ (n13 _ _ (n12 _ _ hSA)), R :: rs, n14 _ _ hU13, ?_⟩ (kept_mut k013 B0) ((T13.same n14).mono (by omega))
    · have := congrArg List.length h1
      rw [List.length_map] at this
      omega
    · rw [h1]
      exact pw.sublist (List.take_sublist _ _)
    · rw [h1]
      exact fun z => (hk p (List.mem_of_mem_take z)).2 rfl
    · rw [h1]
      intro k hk'
      have := (hk k (List.mem_of_mem_take hk')).1
      exact (by decide : ∀ k ∈ oth, k ∈ nums) k this
    · exact RowsP.cons (h2.mono fun r q' hp => n14 _ _ (n13 _ _ (n12 _ _ hp))) (n14 _ _ (n13 _ _ (n12 _ _ hRA)))
end
end P60
end S_Ko
section S_Kp
namespace P60
open PySem PySem.Spec PyProof.Rows L2 Tl Hk LamX
/-- a pair of a label's rows -/
def YN (near : List (Nat × List Bool)) : Nat → Hp → V → Hp → Prop := fun i H v H' => H' = H ∧ ∃ r, v = .ref r ∧ H r = some (.tup [.int ((near.getD i (0, [])).1 : Int), .str (sS (near.getD i (0, [])).2)])
theorem ei_near {K : PySem.W.Frag} {σ : L2.St} {H : Hp} {te : TE} {N : Addr} {near : List (Nat × List Bool)} (h : Evl.Ev te σ H (.ref N)) (hN : NearAt H N near) : EvI (iTup K te) σ H near.length (YN near) := fun H1 e R k => by
  obtain ⟨rs, h1, h2, h3⟩ := hN
  have hl : (rs.map V.ref).length = near.length := by rw [List.length_map, h2]
  have w0 := walk_tup (K := K) (a := N) (xs := rs.map V.ref)
  rw [hl] at w0
  refine h H1 e _ fun H2 e2 => ⟨N, rfl, ⟨_, Evl.ex_t (e.trans e2) (Evl.st_of h1)⟩, k _ (fun A => SqT K A N (rs.map V.ref) ∧ Evl.Ex H A) H2 e2 (w0.mono (fun _ q => q.1) fun i A v A' hi q y => ?_) fun A ab _ => ⟨Evl.ex_t ab (Evl.st_of h1), ab⟩⟩
  obtain ⟨y1, y2⟩ := y
  have hr : i < rs.length := by omega
  rw [List.getElem?_map, List.getElem?_eq_getElem hr] at y2
  refine ⟨y1, rs[i], (Option.some.inj y2).symm, ?_⟩
  have := q.2 _ _ (h3 i _ _ (List.getElem?_eq_getElem hr) (List.getElem?_eq_getElem hi))
  rw [this, List.getD_eq_getElem?_getD, List.getElem?_eq_getElem hi]
  rfl
theorem aims_near {K : PySem.W.Frag} {near : List (Nat × List Bool)} {n j1 j2 : Nat} : Aims (gTup K 2 (gCons (gName j1) (gCons (gName j2) gNil))) n (YN near)
    (fun i σ => (σ.set j1 (some (.int ((near.getD i (0, [])).1 : Int)))).set j2 (some (.str (sS (near.getD i (0, [])).2)))) := fun i σ H v H' hi y => by
  obtain ⟨rfl, r, rfl, hr⟩ := y
  exact ⟨Evl.Ex.refl _, fun Q q => ⟨r, _, rfl, Evl.st_of hr, rfl, _, _, rfl, _, _, rfl, rfl, q⟩⟩
theorem scLText : FnScope ["label", "items", "number", "piece", "signs"] ["label"] (defScope sLText) := ⟨rfl, rfl, rfl, by decide +kernel, rfl, by decide +kernel, by decide +kernel⟩
def spLText : Sp := fun vs H Q _ => ∃ (A : Addr) (L : Lb), vs = [.ref A] ∧ L.Ok ∧ LabAt H A L ∧ ∀ H1, Evl.Ex H H1 → Q (.str (txt (items L))) H1
theorem spv_lText {H : Hp} {A : Addr} {L : Lb} (h : L.Ok) (h1 : LabAt H A L) : Evl.SpV spLText [.ref A] H (.str (txt (items L))) := fun H1 e Q q E => ⟨A, L, rfl, h, h1.ex e, q⟩
section
variable {P : Program} {w : World} {K : PySem.W.Frag} {mg : Str → Option Value} {base : Heap}
set_option maxHeartbeats 1000000 in
theorem ok_lText {f : Addr} {fd : FuncData} {k : Nat} (F : Fun K "_law_text" "_law_text" sLText f fd)
    (mstr : mg "str" = none) : FnOk P w K mg base CX0 (k + 1) f fd ["label"] spLText := by
  refine F.ok scLText (fun vs H Q E h => ?_) (fun cdv A outer s H vs Q E hr h => ?_)
  · obtain ⟨A, L, rfl, _⟩ := h
    rfl
  · obtain ⟨A0, L, rfl, hL, ⟨S, N, hA, hS, hN⟩, q⟩ := h
    have nd := scLText.nd
    refine ⟨_, pss_cons (ps_setLc (i := 1) (own := [("number", 2)]) (g := gName 2) (tt := tYes) (te := teStr 2) rfl nd rfl rfl (sw_true rfl rfl rfl (by decide +kernel)) (pi_tup (pe_ix ix_tup (pv 0) pe_int (fun _ _ => rfl))) (blkOk_by (N := ["label", "items", "number", "piece", "signs"]) (sc := defScope sLText) (by decide +kernel)) (fun _ _ _ _ _ => pg_name (i := 2) nd rfl (Or.inl rfl)) (fun _ _ _ _ _ => pts_nil)
          (fun _ _ _ _ _ => pe_callTy call_str_int (by rfl) mstr (by decide +kernel) (pa_cons (pv 2) pa_nil)))
      (pss_cons (ps_for PassesOwn.never rfl (pi_tup (pe_ix ix_tup (pv 0) pe_int (fun _ _ => rfl))) (pg_tup (by rfl) (pgs_cons (pg_name (i := 3) nd rfl (Or.inl rfl)) (pgs_cons (pg_name (i := 4) nd rfl (Or.inl rfl)) pgs_nil)))
          (pss_one (ps_set (i := 1) nd rfl (.inl rfl) (pe_op op_cat (pv 1) (pe_lst (pa_cons pe_str (pa_cons (pe_callTy call_str_int (by rfl) mstr (by decide +kernel) (pa_cons (pv 3) pa_nil)) (pa_cons (pv 4) pa_nil))))))))
      (pss_one (ps_ret (pe_bm PySem.F.plainAttrs_str PySem.F.slot_str_join PySem.F.type_str_join mt_join pe_str (pa_cons (pv 1) pa_nil))))), ?_⟩
    have hn4 := hL.near.len
    refine Evl.q_asgL (xs := pre L 0) (el_seat (K := K) (ei_tup (ev_at (j := 0) (Evl.ev_var rfl) hA rfl) (Evl.st_of hS)) hL (fun _ => rfl) fun _ => rfl) fun I H3 hI e3 h3 => ?_
    refine q_forI (B := H3) (ei_near (K := K) (ev_at (j := 1) (Evl.ev_var (i := 0) rfl) (e3 _ _ hA) rfl) (hN.ex e3)) (aims_near (j1 := 3) (j2 := 4)) (Evl.Ex.refl _) (fun G i σ' H' => ∃ I' y4 y5, σ' = [some (.ref A0), some (.ref I'), none, y4, y5] ∧ H' I' = some (.lst (pre L i)) ∧ Evl.Ex G H')
      (fun G eG => ⟨_, _, _, rfl, eG _ _ h3, Evl.Ex.refl _⟩) (fun G i σ' H' eG hi p => ?_) (fun G i σ' H' H'' eG hi p e4 => ?_) (fun G σ' H' eG p => ?_)
    · obtain ⟨I', y4, y5, rfl, hI', hk⟩ := p
      exact ⟨eG.trans hk, fun a o _ h2 => hk _ _ h2⟩
    · obtain ⟨I', y4, y5, rfl, hI', hk⟩ := p
      have hpl := pre_len L i
      refine Evl.s_asgL (xs := pre L (i + 1)) ?_ fun p H5 hp e5 h5 => ⟨_, _, _, rfl, h5, (hk.trans e4).trans e5⟩
      rw [← pre_succ hi]
      exact el_catVN (Evl.ev_var rfl) (e4 _ _ hI') (el_row hL hi rfl rfl) (by show (pre L i).length + 3 ≤ 100000; omega)
    · obtain ⟨I', y4, y5, rfl, hI', hk⟩ := p
      rw [pre_all] at hI'
      refine Evl.s_ret (ev_join hL rfl hI') fun H5 e5 => q H5 ((e3.trans eG).trans (hk.trans e5))
end
end P60
end S_Kp
section S_Ws
namespace Hk
open PySem PySem.Spec PyProof.Rows L2 LamX Tl
/-- isinstance(e, (c1, c2, ..)) of a kept error -/
def rIsKT (K : PySem.W.Frag) : List V → Hp → VK → Prop := fun xs H Q => ∃ (a D tp : Addr) (d : Option Addr) (fs : List (Str × V)) (cs : List V) (us : List Value) (b : Bool), xs = [.ref a, .ref tp] ∧ H a = some (ErrAt (.ref D) d a) ∧ DictAt H d fs ∧ ErrC K D ∧ H tp = some (.tup cs) ∧ Paired ClsV cs us ∧ PySem.W.kitAny K (.ref D) us = some b ∧ Q (.bl b) H
theorem call_isKeptT {X : Cx} : CallR X (.builtin "isinstance") (rIsKT X.K) := by
  intro pins s σ H xs us Q I r h
  obtain ⟨a, D, tp, d, fs, cs, ws, b, rfl, ha, hd, C, hT, k, e, q⟩ := h
  obtain ⟨u1, u2, rfl, r1, r2⟩ := vals2 r
  cases (show u2 = Value.ref tp from r2)
  cases (show u1 = Value.ref a from r1)
  obtain ⟨oe, od, mA, J, _, _⟩ := at_inst I ha hd
  obtain ⟨_, its, rv, o, h1, h2, n, h3⟩ := (show ObjOk X.prog X.w H s.heap tp (.tup cs) from I.hok tp _ hT)
  have e3 := ClsV.all k rv
  subst e3
  obtain ⟨oc, od', dt, sl⟩ := o
  simp only at h2 h3
  subst h2 h3
  exact PySem.W.kia_tup (PySem.W.kitx_exc C.ci C.ga C.gg C.ex C.ha C.hn C.ht C.hm) I.kIn J h1 e (fun z => nomatch z) fun tk => ⟨.bl b, H, I.kept (t' := tk) fun _ _ z => z, rfl, q⟩
theorem call_isAnyT {X : Cx} : CallR X (.builtin "isinstance") (fun xs H Q => rIsiT X.K xs H Q ∨ rIsKT X.K xs H Q) := by
  intro pins s σ H xs us Q I r h
  rcases h with h | h
  · exact call_isiT _ _ _ _ _ _ _ I r h
  · exact call_isKeptT _ _ _ _ _ _ _ I r h
section
variable {K : PySem.W.Frag} {σ : L2.St} {G : Hp}
theorem ev_isKT2 {a D : Addr} {d : Option Addr} {fs : List (Str × V)} {c1 c2 : Addr} {b : Bool} {i : Nat} (hσ : σ[i]? = some (some (.ref a))) (ha : G a = some (ErrAt (.ref D) d a)) (hd : DictAt G d fs) (E : ErrC K D) (hk : PySem.W.kitAny K (.ref D) [.ref c1, .ref c2] = some b) :
    Evl.Ev (tCB (fun xs H Q => rIsiT K xs H Q ∨ rIsKT K xs H Q) (tCons (tVar i) (tCons (tTup (tCons (tC (.ref c1)) (tCons (tC (.ref c2)) tNil))) tNil))) σ G (.bl b) := fun H1 e Q q =>
  ⟨.ref a, hσ, by show 2 ≤ sizeLine; decide, fun tp htp => .inr ⟨a, D, tp, d, fs, [.ref c1, .ref c2], [.ref c1, .ref c2], b, rfl, (e.trans (Evl.Ex.new htp)) _ _ ha, hd.imp fun x ⟨y, z⟩ => ⟨y, (e.trans (Evl.Ex.new htp)) _ _ z⟩, E, upd_same, .cons (.own c1) (.cons (.own c2) .nil), hk, q _ (Evl.Ex.new htp)⟩⟩
end
end Hk
end S_Ws
section S_Kq
namespace P60
open PySem PySem.Spec PyProof.Rows L2 Tl Hk LamX
theorem scHeard : FnScope nAsk ["ask"] (defScope sHeard) := ⟨rfl, rfl, rfl, by decide +kernel, rfl, by decide +kernel, by decide +kernel⟩
abbrev isA (K : PySem.W.Frag) (C : Addr) : TE := tCB (fun xs H Q => rIsi K xs H Q ∨ rIsK K xs H Q) (tCons (tVar 1) (tCons (tC (.ref C)) tNil))
abbrev isAT (K : PySem.W.Frag) (C D : Addr) : TE := tCB (fun xs H Q => rIsiT K xs H Q ∨ rIsKT K xs H Q) (tCons (tVar 1) (tCons (tTup (tCons (tC (.ref C)) (tCons (tC (.ref D)) tNil))) tNil))
abbrev trH (K : PySem.W.Frag) (CL CS : Addr) : TS := tSeq (tIfS (tB (isAT K CL CS)) (tRet (tTup (tCons (tIf (tB (isA K CL)) (tC (.str "label")) (tC (.str "seat"))) (tCons (tKeptF K "part" (tVar 1)) tNil)))) tNext)
  (tRet (tIf (tTest (tOp (fun x y H Q => y = V.non ∧ Q (.bl (decide (x = .non))) H) (tVar 1) (tC .non))) (tC .non) (tTup (tCons (tC (.str "other")) (tCons (tC .non) tNil)))))
theorem gives_heard {X : Cx} {fH CL CS CE : Addr} {cdv : Value} {q : Str} (mi : X.mg "isinstance" = none) (gL : X.mg "BadLabel" = some (.ref CL)) (gS : X.mg "BadSeats" = some (.ref CS)) (gE : X.mg "LaneError" = some (.ref CE)) :
    GivesTo X nAsk "_law_heard" (defScope sHeard) fH cdv (defBody sHeard) "ask" q (THeardS X.K CE (trH X.K CL CS)) := by
  refine heard_givesS (e := "LaneError") scHeard (by rfl) (by rfl) (by rfl) gE (by decide) fun A s H => ?_
  have v1 : ∀ {p : Pos}, PE (cxA X "_law_heard" (defScope sHeard) fH cdv A s H) (.Name "caught" p) (tVar 1) := pe_var (i := 1) rfl (Or.inl (by rfl))
  have is : ∀ {x : Str} {C : Addr} {p1 p2 p3 p4 : Pos}, X.mg x = some (.ref C) → (defScope sHeard).names.lookup x = some .globalImplicit → (x == ("__debug__" : Str)) = false → PE (cxA X "_law_heard" (defScope sHeard) fH cdv A s H) (.Call (.Name "isinstance" p1) [.Name "caught" p2, .Name x p3] [] p4) (isA X.K C) := fun {x C p1 p2 p3 p4} h1 h2 h3 =>
    pe_callB call_isAny (by rfl) mi (by decide +kernel) (pa_cons v1 (pa_cons (pe_glob (v := .ref C) h2 h1 rfl h3) pa_nil))
  exact pss_cons (ps_if (pt_val (pe_callB call_isAnyT (by rfl) mi (by decide +kernel) (pa_cons v1 (pa_cons (pe_tup (pa_cons (pe_glob (v := .ref CL) (by rfl) gL rfl (by decide)) (pa_cons (pe_glob (v := .ref CS) (by rfl) gS rfl (by decide)) pa_nil))) pa_nil))))
      (pss_one (ps_ret (pe_tup (pa_cons (pe_ifExp (pt_val (is gL (by rfl) (by decide))) pe_str pe_str) (pa_cons (pe_keptF v1) pa_nil))))) pss_nil)
    (pss_one (ps_ret (pe_ifExp (pt_cmpR op_isN v1 pe_non (nomark _)) pe_non (pe_tup (pa_cons pe_str (pa_cons pe_non pa_nil))))))
/-- what is known of the error classes -/
structure TE60 (K : PySem.W.Frag) (mg : Str → Option Value) (CL CS CE : Addr) : Prop where
  gL : mg "BadLabel" = some (.ref CL)
  gS : mg "BadSeats" = some (.ref CS)
  gE : mg "LaneError" = some (.ref CE)
  eL : ErrC K CL
  eS : ErrC K CS
  nL : PySem.W.findIn K (.ref CL) "part" = some none
  nS : PySem.W.findIn K (.ref CS) "part" = some none
  xL : PySem.W.exmOne K (.ref CL) (.ref CE) = some true
  xS : PySem.W.exmOne K (.ref CS) (.ref CE) = some true
  kLL : PySem.W.kitOne K (.ref CL) (.ref CL) = some true
  kSL : PySem.W.kitOne K (.ref CS) (.ref CL) = some false
  kSS : PySem.W.kitOne K (.ref CS) (.ref CS) = some true
section
variable {K : PySem.W.Frag} {mg : Str → Option Value} {CL CS CE : Addr}
theorem rd_L (E : TE60 K mg CL CS CE) {s : Str} (G : Hp) (a d : Addr) (σ' : L2.St) (D' : Ends) (ha : G a = some (ErrAt (.ref CL) (some d) a)) (hd : DictAt G (some d) [(("part" : Str), .str s)]) (hσ : σ'[1]? = some (some (.ref a)))
    (k : ∀ p G', G p = none → Evl.Ex G G' → G' p = some (.tup [.str "label", .str s]) → D'.rt (.ref p) G') : trH K CL CS D' σ' G := by
  refine Evl.q_when (b := true) (Evl.et_B (ev_isKT2 hσ ha hd E.eL (kitAny_cons E.kLL (fun z => nomatch z) fun _ => rfl))) (fun _ H1 e1 => ?_) (fun z => nomatch z)
  have hd1 : DictAt H1 (some d) [(("part" : Str), .str s)] := hd.imp fun x ⟨y, z⟩ => ⟨y, e1 _ _ z⟩
  refine Evl.s_retU (Evl.eu_tup (Evl.ea_cons (Evl.ev_if (b := true) (Evl.et_B (ev_isK hσ (e1 _ _ ha) hd1 E.eL E.kLL)) (fun _ => Evl.ev_c) (fun z => nomatch z)) (Evl.ea_cons (ev_keptF hσ (e1 _ _ ha) hd1 E.eL E.nL (by simp [List.lookup])) Evl.ea_nil)) (by show 2 ≤ 100000; decide)) fun p H2 hp e2 h2 => k p H2 (Evl.fresh_back e1 hp) (e1.trans e2) h2
theorem rd_S (E : TE60 K mg CL CS CE) {s : Str} (G : Hp) (a d : Addr) (σ' : L2.St) (D' : Ends) (ha : G a = some (ErrAt (.ref CS) (some d) a)) (hd : DictAt G (some d) [(("part" : Str), .str s)]) (hσ : σ'[1]? = some (some (.ref a)))
    (k : ∀ p G', G p = none → Evl.Ex G G' → G' p = some (.tup [.str "seat", .str s]) → D'.rt (.ref p) G') : trH K CL CS D' σ' G := by
  refine Evl.q_when (b := true) (Evl.et_B (ev_isKT2 hσ ha hd E.eS (kitAny_cons E.kSL (fun _ => kitAny_cons E.kSS (fun z => nomatch z) fun _ => rfl) fun z => nomatch z))) (fun _ H1 e1 => ?_) (fun z => nomatch z)
  have hd1 : DictAt H1 (some d) [(("part" : Str), .str s)] := hd.imp fun x ⟨y, z⟩ => ⟨y, e1 _ _ z⟩
  refine Evl.s_retU (Evl.eu_tup (Evl.ea_cons (Evl.ev_if (b := false) (Evl.et_B (ev_isK hσ (e1 _ _ ha) hd1 E.eS E.kSL)) (fun z => nomatch z) (fun _ => Evl.ev_c)) (Evl.ea_cons (ev_keptF hσ (e1 _ _ ha) hd1 E.eS E.nS (by simp [List.lookup])) Evl.ea_nil)) (by show 2 ≤ 100000; decide)) fun p H2 hp e2 h2 => k p H2 (Evl.fresh_back e1 hp) (e1.trans e2) h2
end
end P60
end S_Kq
section S_Wu
namespace Hk
open PySem PySem.Spec PyProof.Rows L2 LamX Tl
/-- a text backward -/
def revS (z : Str) : Str := ⟨((Builtin.Str.strSliceIndices none none (-1) z.length).filterMap (z.cps[·]?)).toArray⟩
def tRevS (te : TE) : TE := fun σ H Q => te σ H fun x H1 => ∃ z, x = .str z ∧ (revS z).length ≤ sizeLine ∧ Q (.str (revS z)) H1
theorem pe_revS {X : Cx} {e : Expr} {te : TE} {k : Nat} {p1 p2 p3 pos : Pos} (he : PE X e te) : PE X (.Subscript e (.Slice none none (some (.UnaryOp .USub (.Constant (.int 1) k p1) p2)) p3) pos) (tRevS te) := by
  refine ⟨fun pins s σ H Q I h => ?_⟩
  refine Subscript_ (thn (he.run pins s σ H _ I h) fun v s1 ⟨x, H1, I1, r1, q1⟩ => ?_)
  obtain ⟨z, ex, hz, q⟩ := q1
  subst ex
  obtain ⟨t, rfl⟩ := r1
  have hst : PO X (some (.UnaryOp .USub (.Constant (.int 1) k p1) p2)) (tPart (tUn (rU fun i => .int (-i)) (tC (.int 1)))) := po_some (pe_un un_neg pe_int)
  refine wpAny_Slice (thn (po_none.run pins s1 σ H1 (fun o H2 => o = none ∧ H2 = H1) I1 ⟨rfl, rfl⟩) fun vl s2 ⟨l, H2, I2, pl, el, e2⟩ => ?_)
  subst el e2
  refine thn (po_none.run pins s2 σ H2 (fun o H3 => o = none ∧ H3 = H2) I2 ⟨rfl, rfl⟩) fun vu s3 ⟨u, H3, I3, pu, eu, e3⟩ => ?_
  subst eu e3
  refine thn (hst.run pins s3 σ H3 (fun o H4 => o = some (-1) ∧ H4 = H3) I3 ⟨1, rfl, -1, rfl, rfl, rfl⟩) fun vs s4 ⟨o, H4, I4, ps, eo, e4⟩ => ?_
  subst eo e4
  have I5 : Inv X pins σ H4 { s4 with heap := s4.heap.push { cls := .type "slice", data := .fields #[vl, vu, vs] } } := I4.kept (t' := s4.toks) fun b ob q => Heap.get?_push_of_some _ q
  obtain ⟨l', rfl, el⟩ := IsPart.raw pl
  obtain ⟨u', rfl, eu⟩ := IsPart.raw pu
  obtain ⟨st', rfl, es⟩ := IsPart.raw ps
  show wpAny (model X.prog X.w) X.A (subscriptTail e (.Slice none none (some (.UnaryOp .USub (.Constant (.int 1) k p1) p2)) p3) (.str z t) (.ref s4.heap.objs.size)) (EP X pins σ Q) X.xe { s4 with heap := s4.heap.push { cls := .type "slice", data := .fields #[partValue l', partValue u', partValue st'] } }
  refine tail_any (ops := [.str z t, .ref s4.heap.objs.size]) (typeIs_str _ _ _) (F.slot_str_getitem.lookup) ?_ (by with_unfolding_all rfl)
  refine wpAny_getItem_str_slice (l := l') (u := u') (st := st') ⟨_, Heap.get?_push_size _ rfl, rfl, rfl⟩ (by rw [es]; rfl) ?_
  unfold sliceMade slicePicked
  rw [el, eu, es]
  have hne : ¬((((some (-1) : Option Int).getD 1 == 1) && (Builtin.Str.strSliceIndices none none ((some (-1) : Option Int).getD 1) z.length).length == z.length) = true) := by
    show ¬((false && _) = true)
    rw [Bool.false_and]
    exact Bool.false_ne_true
  rw [if_neg hne]
  exact ⟨hz, .str (revS z), H4, I5.tok _, ⟨_, rfl⟩, q⟩
/-- a text, some times -/
def mulS (a : Str) (n : Nat) : Str := ⟨(List.replicate n a.cps).foldl (· ++ ·) #[]⟩
def rMulS : R2 := fun x y H Q => ∃ (a : Str) (n : Nat), x = .str a ∧ y = .int (n : Int) ∧ 2 ≤ n ∧ 1 ≤ a.length ∧ a.length * n ≤ 1000 ∧ Q (.str (mulS a n)) H
theorem op_mulS {X : Cx} : OpR X (binaryOp .Mult) rMulS := by
  intro pins s σ H x y v u Q I rx ry h
  obtain ⟨a, n, rfl, rfl, h2, h1, hz, q⟩ := h
  obtain ⟨t, rfl⟩ := rx
  obtain ⟨t2, rfl⟩ := ry
  have hn : n ≤ 1000 := Nat.le_trans (Nat.le_mul_of_pos_left n h1) hz
  have hlong : Builtin.Str.tooLong (a.length * ((n : Int)).toNat) = false := by
    rw [Int.toNat_natCast]
    refine decide_eq_false fun z => ?_
    rw [sizeLine_eq] at z
    exact absurd (Nat.lt_of_lt_of_le z hz) (by decide)
  refine PySem.P.mul_str ?_ (fun _ _ => ?_) (fun _ _ => hlong) ?_
  · rw [decide_eq_false (by omega), decide_eq_false (by omega)]
    rfl
  · have : ((a.length : Nat) : Int) ≤ (2 ^ 63 - 1) / (n : Int) := by
      refine (Int.le_ediv_iff_mul_le (by omega)).mpr ?_
      have : ((a.length : Nat) : Int) * (n : Int) = ((a.length * n : Nat) : Int) := by rw [Int.natCast_mul]
      rw [this]
      have h3 : ((a.length * n : Nat) : Int) ≤ 1000 := by exact_mod_cast hz
      exact Int.le_trans h3 (by decide)
    omega
  · rw [if_neg (by omega), if_neg (by
      rw [Bool.or_eq_true_iff, beq_iff_eq, beq_iff_eq]
      omega), Int.toNat_natCast]
    exact ⟨PySem.fits_reps (by rw [← hlong, Int.toNat_natCast]), .str (mulS a n), H, I.tok _, ⟨_, rfl⟩, q⟩
end Hk
end S_Wu
section S_Kr
namespace P60
open PySem PySem.Spec PyProof.Rows L2 Tl Hk LamX
def oddS : List Str := ["", "/", "0", "1", "2", "3", "-1", "00", "01", "+1", "1_0", "x", "000000000", "111111111", "00000000", "0000000000", "00000000x", "222222222", nines, "999", "1000", "0999"]
theorem odd_in : ∀ s ∈ oddS, s ∈ base0 := by decide +kernel
theorem mul29 : mulS "2" 9 = "222222222" := by decide +kernel
theorem mul9n : mulS "9" 141 = nines := by decide +kernel
theorem rev_base : ∀ s ∈ (("/" : Str) :: nums.map dS), revS s ∈ base0 ∧ (revS s).length ≤ 1000 := by decide +kernel
set_option maxHeartbeats 4000000 in
theorem rev_signs : ∀ b0 b1 b2 b3 b4 b5 b6 b7 b8 : Bool, revS (sS [b0, b1, b2, b3, b4, b5, b6, b7, b8]) = sS [b8, b7, b6, b5, b4, b3, b2, b1, b0] := by decide +kernel
theorem Lb.Dr.parts {L : Lb} (h : L.Dr) {s : Str} (hs : s ∈ items L) : s ∈ (("/" : Str) :: nums.map dS) ∨ ∃ b : List Bool, b.length = 9 ∧ s = sS b := by
  have di : ∀ {k : Nat}, k ∈ nums → dS k ∈ (("/" : Str) :: nums.map dS) := fun {k} hk => List.mem_cons_of_mem _ (List.mem_map.mpr ⟨k, hk, rfl⟩)
  unfold items at hs
  rcases List.mem_append.mp hs with hs | hs
  · have hn := h.ok.hn
    simp only [List.mem_cons, List.not_mem_nil, or_false] at hs
    rcases hs with rfl | rfl | rfl
    · exact .inl (di h.hp)
    · exact .inl (di h.hl)
    · exact .inl (di (by
        have : ∀ k, k < 3 → k ∈ nums := by decide
        exact this _ hn))
  · obtain ⟨g, hg, hs⟩ := List.mem_flatten.mp hs
    obtain ⟨q, hq, rfl⟩ := List.mem_map.mp hg
    unfold gi at hs
    simp only [List.mem_cons, List.not_mem_nil, or_false] at hs
    rcases hs with rfl | rfl | rfl
    · exact .inl List.mem_cons_self
    · exact .inl (di (h.near q hq))
    · exact .inr ⟨q.2, (h.ok.near.each q hq).2.1, rfl⟩
theorem Lb.Dr.rev {L : Lb} (h : L.Dr) {s : Str} (hs : s ∈ items L) : Item (revS s) ∧ (revS s).length ≤ 1000 := by
  rcases h.parts hs with hs | ⟨b, hb, rfl⟩
  · exact ⟨.inl (rev_base s hs).1, (rev_base s hs).2⟩
  · obtain ⟨b0, b1, b2, b3, b4, b5, b6, b7, b8, rfl⟩ := nine hb
    rw [rev_signs]
    exact ⟨.inr ⟨_, rfl, rfl⟩, by rw [sS_len]; show 9 ≤ 1000; decide⟩
theorem scLBent : FnScope ["tagger", "label", "items", "at", "way", "odd", "new"] ["tagger", "label"] (defScope sLBent) := ⟨rfl, rfl, rfl, by decide +kernel, rfl, by decide +kernel, by decide +kernel⟩
def spBent : Sp := fun vs H Q _ => ∃ (t c A : Addr) (n : Nat) (L : Lb), vs = [.ref t, .ref A] ∧ Tub H t c n ∧ n ≤ 50000 ∧ L.Dr ∧ LabAt H A L ∧ ∀ its H', Its its → Kept t H H' → Tub H' t c (n + 10) → Q (.str (txt its)) H'
abbrev rJoin (K : PySem.W.Frag) : V → List V → Hp → VK → Prop := fun x xs H Q => ∃ a p, ∃ ys : List Str, x = .str a ∧ xs = [.ref p] ∧ (SqL K H p (ys.map V.str) ∨ SqT K H p (ys.map V.str)) ∧ (ys.map (·.length)).sum + ys.length * a.length ≤ 16777216 ∧ Q (.str (Txt.join a ys)) H
theorem ev_joinL {K : PySem.W.Frag} {σ : L2.St} {H : Hp} {te : TE} {its : List Str} (h : Evl.EvL te σ H (its.map V.str)) (hI : Its its) : Evl.Ev (tBM K "str" (rJoin K) (tC (.str " ")) (tCons te tNil)) σ H (.str (txt its)) := fun H1 e Q q =>
  ⟨rfl, h H1 e _ fun p H2 hp e2 h2 => ⟨" ", p, its, rfl, rfl, .inl (Evl.sq_of h2), by
    have := hI.sum
    show (its.map (·.length)).sum + its.length * 1 ≤ 16777216
    omega, q H2 e2⟩⟩
section
variable {P : Program} {w : World} {K : PySem.W.Frag} {mg : Str → Option Value} {base : Heap}
set_option maxHeartbeats 1000000 in
theorem ok_bent {f fS fP fX : Addr} {fd fdS fdP fdX : FuncData} {k : Nat} (F : Fun K "_law_bent" "_law_bent" sLBent f fd)
    (FS : Fun K "_law_stamp" "_law_stamp" sScoop fS fdS) (GS : FnOk P w K mg base CX0 k fS fdS ["tagger", "many"] spScoop) (bS : Binds K fdS ["tagger", "many"] []) (gS : mg "_law_stamp" = some (.ref fS))
    (FP : Fun K "_law_one_of" "_law_one_of" sPick fP fdP) (GP : FnOk P w K mg base CX0 k fP fdP ["tagger", "some"] (spPick K)) (bP : Binds K fdP ["tagger", "some"] []) (gP : mg "_law_one_of" = some (.ref fP))
    (FX : Fun K "_law_text" "_law_text" sLText fX fdX) (GX : FnOk P w K mg base CX0 k fX fdX ["label"] spLText) (bX : Binds K fdX ["label"] []) (gX : mg "_law_text" = some (.ref fX))
    (mstr : mg "str" = none) (mlen : mg "len" = none) : FnOk P w K mg base CX0 (k + 1) f fd ["tagger", "label"] spBent := by
  refine F.ok scLBent (fun vs H Q E h => ?_) (fun cdv A outer s H vs Q E hr h => ?_)
  · obtain ⟨t, c, A, n, L, rfl, _⟩ := h
    rfl
  · obtain ⟨t, c, A0, n, L, rfl, T, hn, hD, hA, q⟩ := h
    have nd := scLBent.nd
    refine ⟨_, pss_cons (ps_set (i := 2) nd rfl (.inl rfl) (pe_bm PySem.F.plainAttrs_str PySem.F.slot_str_split PySem.F.type_str_split mt_split (pe_call GX hr (by rfl) gX FX.kp bX .nil pass0 (pa_cons (pv 1) pa_nil)) (pa_cons pe_str pa_nil)))
      (pss_cons (ps_par (i := 3) (j := 4) (by rfl) nd rfl rfl (by decide) rfl rfl (pa_cons (pe_call GS hr (by rfl) gS FS.kp bS .nil pass0 (pa_cons (pv 0) (pa_cons (pe_callB call_len_seq (by rfl) mlen PySem.boot_len (pa_cons (pv 2) pa_nil)) pa_nil))) (pa_cons (pe_call GS hr (by rfl) gS FS.kp bS .nil pass0 (pa_cons (pv 0) (pa_cons pe_int pa_nil))) pa_nil)) (by rfl))
      (pss_cons (ps_set (i := 5) nd rfl (.inl rfl) (pe_lst (pa_cons pe_str (pa_cons pe_str (pa_cons pe_str (pa_cons pe_str (pa_cons pe_str (pa_cons pe_str (pa_cons pe_str (pa_cons pe_str (pa_cons pe_str (pa_cons pe_str (pa_cons pe_str (pa_cons pe_str (pa_cons pe_str (pa_cons pe_str (pa_cons pe_str (pa_cons pe_str (pa_cons pe_str (pa_cons (pe_op op_mulS pe_str pe_int) (pa_cons (pe_op op_mulS pe_str pe_int) (pa_cons pe_str (pa_cons pe_str (pa_cons pe_str pa_nil))))))))))))))))))))))))
      (pss_cons (ps_set (i := 6) nd rfl (.inl rfl) (pe_call GP hr (by rfl) gP FP.kp bP .nil pass0 (pa_cons (pv 0) (pa_cons (pe_op op_cat (pv 5) (pe_lst (pa_cons (pe_callTy call_str_int (by rfl) mstr (by decide +kernel) (pa_cons (pe_ix ix_tup (pe_ix ix_tup (pv 1) pe_int (fun _ _ => rfl)) pe_int (fun _ _ => rfl)) pa_nil)) (pa_cons (pe_revS (pe_ix ix_list (pv 2) (pv 3) (fun _ _ => rfl))) pa_nil)))) pa_nil))))
      (pss_cons (ps_if (pt_cmpR op_lt (pv 4) pe_int (nomark _)) (pss_one (ps_ret (pe_bm PySem.F.plainAttrs_str PySem.F.slot_str_join PySem.F.type_str_join mt_join pe_str (pa_cons (pe_op op_cat (pe_op op_cat (pe_slice sl_list (pv 2) po_none (po_some (pv 3))) (pe_lst (pa_cons (pv 6) pa_nil))) (pe_slice sl_list (pv 2) (po_some (pe_op op_add (pv 3) pe_int)) po_none)) pa_nil)))) pss_nil)
      (pss_cons (ps_if (pt_cmpR op_eq (pv 4) pe_int (nomark _)) (pss_one (ps_ret (pe_bm PySem.F.plainAttrs_str PySem.F.slot_str_join PySem.F.type_str_join mt_join pe_str (pa_cons (pe_op op_cat (pe_op op_cat (pe_slice sl_list (pv 2) po_none (po_some (pv 3))) (pe_lst (pa_cons (pv 6) pa_nil))) (pe_slice sl_list (pv 2) (po_some (pv 3)) po_none)) pa_nil)))) pss_nil)
      (pss_one (ps_ret (pe_ifExp (pt_cmpR op_eq (pv 4) pe_int (nomark _)) (pe_bm PySem.F.plainAttrs_str PySem.F.slot_str_join PySem.F.type_str_join mt_join pe_str (pa_cons (pe_op op_cat (pe_slice sl_list (pv 2) po_none (po_some (pv 3))) (pe_slice sl_list (pv 2) (po_some (pe_op op_add (pv 3) pe_int)) po_none)) pa_nil))
          (pe_bm PySem.F.plainAttrs_str PySem.F.slot_str_join PySem.F.type_str_join mt_join pe_str (pa_cons (pe_op op_cat (pv 2) (pe_lst (pa_cons pe_str (pa_cons (pe_call GP hr (by rfl) gP FP.kp bP .nil pass0 (pa_cons (pv 0) (pa_cons (pe_lst (pa_cons pe_str (pa_cons pe_str (pa_cons pe_str pa_nil)))) pa_nil))) (pa_cons pe_str pa_nil))))) pa_nil)))))))))), ?_⟩
    have hI := hD.its
    obtain ⟨S, N, a1, a2, a3⟩ := id hA
    obtain ⟨its, hits⟩ : ∃ its, items L = its := ⟨_, rfl⟩
    rw [hits] at hI
    have hl60 := hI.len
    have hl6 : 1 ≤ its.length := by
      rw [← hits, items_len]
      omega
    have lmi : (its.map V.str).length = its.length := List.length_map _
    refine Evl.q_asgL (xs := its.map V.str) (fun G1 f1 Q' q' => (Evl.ev_call (Evl.ea_cons (Evl.ev_var rfl) Evl.ea_nil) (spv_lText hD.ok hA)) G1 f1 _ fun G2 f2 => ⟨rfl, txt its, " ", by rw [hits], rfl, by decide +kernel, by have := hI.txt_len; rw [sizeLine_eq]; omega, fun p hp => ?_⟩) fun I H1 hI0 e1 h1 => ?_
    · rw [hI.split]
      exact q' p _ (Evl.fresh_back f2 hp) (f2.trans (Evl.Ex.new hp)) upd_same
    have It := (T.ne hI0).1
    have T1 := T.ex e1
    have hA1 : LabAt H1 A0 L := hA.ex e1
    refine par_go (cons_any (call_go (Evl.ea_cons (Evl.ev_var rfl) (Evl.ea_cons (Evl.ev_is (Evl.ev_len (Evl.ev_var rfl) (Evl.sq_of h1)) (congrArg (fun n : Nat => V.int (n : Int)) lmi)) Evl.ea_nil)) fun G1 g1 => ⟨t, c, (its.length : Int), n, rfl, T1.ex g1, by omega, by omega, by omega, fun at_ H2 p0 p1 k2 T2 => ?_⟩))
    refine cons_any (call_go (Evl.ea_cons (Evl.ev_var rfl) (Evl.ea_cons Evl.ev_c Evl.ea_nil)) fun G2 g2 => ⟨t, c, 6, n + 1, rfl, T2.ex g2, by omega, by omega, by omega, fun way H3 w0 w1 k3 T3 => ⟨_, _, rfl, ?_⟩⟩)
    obtain ⟨at_, rfl⟩ : ∃ z : Nat, at_ = (z : Int) := ⟨at_.toNat, by omega⟩
    have hat : at_ < its.length := by omega
    have k13 : Kept t H1 H3 := ((kept_ex g1).trans k2).trans ((kept_ex g2).trans k3)
    have k03 : Kept t H H3 := (kept_ex e1).trans k13
    have hI3 : H3 I = some (.lst (its.map V.str)) := k13 _ _ It h1
    have hA3 : LabAt H3 A0 L := by
      obtain ⟨S, N, a1, a2, rs, b1, b2⟩ := hA1
      have tk : ∀ {a : Addr} {xs : List V}, H1 a = some (.tup xs) → H3 a = some (.tup xs) := fun {a xs} h => by
        refine k13 a _ (fun z => ?_) h
        obtain ⟨cs, turn, rest, hh, _⟩ := T1
        rw [z, hh] at h
        cases h
      exact ⟨S, N, tk a1, tk a2, rs, tk b1, b2.mono fun r q hp => pair_kept T1 k13 r q hp⟩
    clear g1 k2 g2 k3 h1 T1 hA1 k13
    refine Evl.q_asgL (xs := oddS.map V.str) ?_ fun O H4 hO0 e4 hO => ?_
    · have c1 : ∀ {σ : L2.St} {G : Hp}, Evl.Ev (tOp rMulS (tC (.str "2")) (tC (.int 9))) σ G (.str "222222222") := Evl.ev_op Evl.ev_c Evl.ev_c fun G e Q q => ⟨"2", 9, rfl, rfl, by decide, by decide, by decide, by rw [mul29]; exact q G (Evl.Ex.refl _)⟩
      have c2 : ∀ {σ : L2.St} {G : Hp}, Evl.Ev (tOp rMulS (tC (.str "9")) (tC (.int 141))) σ G (.str nines) := Evl.ev_op Evl.ev_c Evl.ev_c fun G e Q q => ⟨"9", 141, rfl, rfl, by decide, by decide, by decide, by rw [mul9n]; exact q G (Evl.Ex.refl _)⟩
      exact Evl.el_lst (Evl.ea_cons Evl.ev_c (Evl.ea_cons Evl.ev_c (Evl.ea_cons Evl.ev_c (Evl.ea_cons Evl.ev_c (Evl.ea_cons Evl.ev_c (Evl.ea_cons Evl.ev_c (Evl.ea_cons Evl.ev_c (Evl.ea_cons Evl.ev_c (Evl.ea_cons Evl.ev_c (Evl.ea_cons Evl.ev_c (Evl.ea_cons Evl.ev_c (Evl.ea_cons Evl.ev_c (Evl.ea_cons Evl.ev_c (Evl.ea_cons Evl.ev_c (Evl.ea_cons Evl.ev_c (Evl.ea_cons Evl.ev_c (Evl.ea_cons Evl.ev_c (Evl.ea_cons c1 (Evl.ea_cons c2 (Evl.ea_cons Evl.ev_c (Evl.ea_cons Evl.ev_c (Evl.ea_cons Evl.ev_c Evl.ea_nil)))))))))))))))))))))) (by show 22 ≤ 100000; decide)
    have hI4 := e4 _ _ hI3
    have T4 := T3.ex e4
    obtain ⟨S, N, a1, a2, a3⟩ := hA3.ex e4
    have hitm : its[at_] ∈ items L := by rw [hits]; exact List.getElem_mem hat
    obtain ⟨hrI, hrl⟩ := hD.rev hitm
    have hlist : ∀ {σ : L2.St} {G : Hp}, σ[1]? = some (some (.ref A0)) → σ[2]? = some (some (.ref I)) → σ[3]? = some (some (.int (at_ : Int))) → Evl.Ex H4 G → Evl.EvL (tLst (tCons (tCB (fun xs H Q => ∃ i, xs = [V.int i] ∧ i.natAbs.log2 < 1920 ∧ Q (.str (toString i)) H) (tCons (tOp (rIxT K) (tOp (rIxT K) (tVar 1) (tC (.int 0))) (tC (.int 0))) tNil)) (tCons (tRevS (tOp (rIxL K) (tVar 2) (tVar 3))) tNil))) σ G [.str (dS L.p), .str (revS its[at_])] := fun h1 h2 h3 e => Evl.el_lst (Evl.ea_cons (ev_strN (ev_at (j := 0) (ev_at (j := 0) (Evl.ev_var h1) (e _ _ a1) rfl) (e _ _ a2) rfl) (by have := hD.ok.hp; omega)) (Evl.ea_cons (fun H1 e1 Q q => (Evl.ev_op (Evl.ev_var h2) (Evl.ev_var h3) (Evl.rv_ixL (v := .str its[at_]) (Evl.sq_of (e _ _ hI4)) (atI_nat (by rw [List.getElem?_map, List.getElem?_eq_getElem hat] <;> rfl)))) H1 e1 _ fun H2 e2 => ⟨its[at_], rfl, by rw [sizeLine_eq]; omega, q H2 e2⟩) Evl.ea_nil)) (by show 2 ≤ 100000; decide)
    refine asg_go (call_raw (cons_any ⟨_, rfl, cons_l (xs := oddS.map V.str ++ [.str (dS L.p), .str (revS its[at_])]) (el_catVN (Evl.ev_var rfl) hO (by exact hlist rfl rfl rfl (Evl.Ex.refl _)) (by show 22 + 2 ≤ 100000; decide)) fun Pl H5 hPl e5 h5 => ⟨t, c, Pl, _, n + 2, rfl, T4.ex e5, by omega, (T4.ne hPl).1, Evl.sq_of h5, by show 1 ≤ 24; decide, by show 24 ≤ 10000; decide, fun jj v H6 hv k6 T6 => ?_⟩⟩))
    obtain ⟨nw, rfl, hnw⟩ : ∃ nw, v = .str nw ∧ Item nw := by
      have hm := List.mem_of_getElem? hv
      rcases List.mem_append.mp hm with hm | hm
      · obtain ⟨s, hs, rfl⟩ := List.mem_map.mp hm
        exact ⟨s, rfl, .inl (odd_in s hs)⟩
      · simp only [List.mem_cons, List.not_mem_nil, or_false] at hm
        rcases hm with rfl | rfl
        · exact ⟨_, rfl, .inl (List.mem_append.mpr (.inr (List.mem_map.mpr ⟨_, hD.hp, rfl⟩)))⟩
        · exact ⟨_, rfl, hrI⟩
    have hI6 : H6 I = some (.lst (its.map V.str)) := k6 _ _ It (e5 _ _ hI4)
    have k06 : Kept t H H6 := k03.trans ((kept_ex (e4.trans e5)).trans k6)
    have new_its : ∀ xs : List Str, xs ≠ [] → xs.length ≤ 60 → (∀ s ∈ xs, s ∈ its ∨ Item s) → Its xs := fun xs h1 h2 h3 => ⟨h1, h2, fun s hs => (h3 s hs).elim (hI.all s) id⟩
    have l15 : its.length ≤ 15 := by rw [← hits, items_len]; have := hD.ok.near.len; omega
    have cT : ∀ {σ : L2.St} {G : Hp}, σ[2]? = some (some (.ref I)) → σ[3]? = some (some (.int (at_ : Int))) → Evl.Ex H6 G → Evl.EvL (tSl (rSlL K) (tVar 2) tNoPart (tPart (tVar 3))) σ G ((its.take at_).map V.str) := fun h2 h3 e => by
      rw [List.map_take, ← cutTo']
      exact Evl.el_sl (Evl.ev_var h2) Evl.eo_none (Evl.eo_some (Evl.ev_var h3)) (Evl.sq_of (e _ _ hI6))
    have cD : ∀ {σ : L2.St} {G : Hp}, σ[2]? = some (some (.ref I)) → σ[3]? = some (some (.int (at_ : Int))) → Evl.Ex H6 G → Evl.EvL (tSl (rSlL K) (tVar 2) (tPart (tVar 3)) tNoPart) σ G ((its.drop at_).map V.str) := fun h2 h3 e => by
      rw [List.map_drop, ← cutFrom]
      exact Evl.el_sl (Evl.ev_var h2) (Evl.eo_some (Evl.ev_var h3)) Evl.eo_none (Evl.sq_of (e _ _ hI6))
    have cD1 : ∀ {σ : L2.St} {G : Hp}, σ[2]? = some (some (.ref I)) → σ[3]? = some (some (.int (at_ : Int))) → Evl.Ex H6 G → Evl.EvL (tSl (rSlL K) (tVar 2) (tPart (tOp (rI0 fun i j => .int (i + j)) (tVar 3) (tC (.int 1)))) tNoPart) σ G ((its.drop (at_ + 1)).map V.str) := fun h2 h3 e => by
      rw [List.map_drop, ← cutFrom]
      exact Evl.el_sl (Evl.ev_var h2) (Evl.eo_some (Evl.ev_is (Evl.ev_op (Evl.ev_var h3) Evl.ev_c Evl.rv_I0) (congrArg V.int (by omega)))) Evl.eo_none (Evl.sq_of (e _ _ hI6))
    have lt : (its.take at_).length ≤ 15 := by rw [List.length_take]; omega
    have ld : (its.drop at_).length ≤ 15 := by rw [List.length_drop]; omega
    have ld1 : (its.drop (at_ + 1)).length ≤ 15 := by rw [List.length_drop]; omega
    have done : ∀ {D : Ends} {σ : L2.St} {G : Hp} {te : TE} {xs : List Str}, D.rt = Q → Evl.Ex H6 G → Evl.EvL te σ G (xs.map V.str) → Its xs → tRet (tBM K "str" (rJoin K) (tC (.str " ")) (tCons te tNil)) D σ G := fun {D σ G te xs} hD' e hE hX => Evl.s_ret (ev_joinL hE hX) fun G2 e2 => by
      rw [hD']
      exact q xs G2 hX (k06.trans (kept_ex (e.trans e2))) ((T6.ex (e.trans e2)).mono (by omega))
    have one : ∀ {σ : L2.St} {G : Hp}, σ[6]? = some (some (.str nw)) → Evl.EvL (tLst (tCons (tVar 6) tNil)) σ G ([nw].map V.str) := fun h => Evl.el_lst (Evl.ea_cons (Evl.ev_var h) Evl.ea_nil) (by show 1 ≤ 100000; decide)
    have mt : ∀ {s : Str}, s ∈ its.take at_ → s ∈ its := fun h => List.mem_of_mem_take h
    refine Evl.q_when (b := decide (way < 3)) (Evl.et_test (Evl.ev_op (Evl.ev_var rfl) Evl.ev_c Evl.rv_I0)) (fun _ H7 e7 => ?_) fun _ H7 e7 => ?_
    · refine done (xs := its.take at_ ++ [nw] ++ its.drop (at_ + 1)) rfl e7 ?_ (new_its _ (by simp) (by rw [List.length_append, List.length_append, List.length_singleton]; omega) fun s hs => ?_)
      · rw [List.map_append, List.map_append]
        exact el_catN (el_catN (cT rfl rfl e7) (one rfl) (by rw [List.length_map]; show _ + 1 ≤ 100000; omega)) (cD1 rfl rfl e7) (by simp only [List.length_append, List.length_map, List.length_cons, List.length_nil]; omega)
      · rcases List.mem_append.mp hs with hs | hs
        · rcases List.mem_append.mp hs with hs | hs
          · exact .inl (mt hs)
          · rw [List.mem_singleton.mp hs]; exact .inr hnw
        · exact .inl (List.mem_of_mem_drop hs)
    refine Evl.q_when (b := decide (V.int way = V.int 3)) (Evl.et_test (Evl.ev_op (Evl.ev_var rfl) Evl.ev_c (Evl.rv_eq rfl))) (fun _ H8 e8 => ?_) fun _ H8 e8 => ?_
    · have e78 := e7.trans e8
      refine done (xs := its.take at_ ++ [nw] ++ its.drop at_) rfl e78 ?_ (new_its _ (by simp) (by rw [List.length_append, List.length_append, List.length_singleton]; omega) fun s hs => ?_)
      · rw [List.map_append, List.map_append]
        exact el_catN (el_catN (cT rfl rfl e78) (one rfl) (by rw [List.length_map]; show _ + 1 ≤ 100000; omega)) (cD rfl rfl e78) (by simp only [List.length_append, List.length_map, List.length_cons, List.length_nil]; omega)
      · rcases List.mem_append.mp hs with hs | hs
        · rcases List.mem_append.mp hs with hs | hs
          · exact .inl (mt hs)
          · rw [List.mem_singleton.mp hs]; exact .inr hnw
        · exact .inl (List.mem_of_mem_drop hs)
    have e78 := e7.trans e8
    refine ret_go ((Evl.et_test (Evl.ev_op (Evl.ev_var rfl) Evl.ev_c (Evl.rv_eq rfl))) H8 (Evl.Ex.refl _) _ fun H9 e9 => if_go (fun _ => ?_) fun _ => ?_)
    · have e79 := e78.trans e9
      have l6 : 6 ≤ its.length := by rw [← hits, items_len]; obtain ⟨b, r, e, _⟩ := hD.ok.near.head; rw [e, List.length_cons]; omega
      have hX : Its (its.take at_ ++ its.drop (at_ + 1)) := new_its _ (fun z => by
        have := congrArg List.length z
        rw [List.length_append, List.length_take, List.length_drop, List.length_nil] at this
        omega) (by rw [List.length_append]; omega) fun s hs => by
          rcases List.mem_append.mp hs with hs | hs
          · exact .inl (mt hs)
          · exact .inl (List.mem_of_mem_drop hs)
      refine (ev_joinL (K := K) (its := its.take at_ ++ its.drop (at_ + 1)) ?_ hX) H9 (Evl.Ex.refl _) _ fun G2 e2 => q _ G2 hX (k06.trans (kept_ex (e79.trans e2))) ((T6.ex (e79.trans e2)).mono (by omega))
      rw [List.map_append]
      exact el_catN (cT rfl rfl e79) (cD1 rfl rfl e79) (by rw [List.length_map, List.length_map]; omega)
    · have e79 := e78.trans e9
      refine ⟨rfl, cons_any (op_go ⟨_, rfl, lst_go (cons_c (cons_any (call_raw (cons_any ⟨_, rfl, cons_l (xs := [.str "0", .str "9", .str "3"]) (Evl.el_lst (Evl.ea_cons Evl.ev_c (Evl.ea_cons Evl.ev_c (Evl.ea_cons Evl.ev_c Evl.ea_nil))) (by show 3 ≤ 100000; decide)) fun P2 G1 hP2 f1 x1 => ⟨t, c, P2, _, n + 3, rfl, T6.ex (e79.trans f1), by omega, ((T6.ex e79).ne hP2).1, Evl.sq_of x1, by show 1 ≤ 3; decide, by show 3 ≤ 10000; decide, fun j2 v G2 hv2 k7 T7 => cons_c ⟨by show 3 ≤ sizeLine; decide, fun B hB => ?_⟩⟩⟩))))⟩)⟩
      obtain ⟨dv, rfl, hdv⟩ : ∃ dv : Str, v = .str dv ∧ Item dv := by
        have hm := List.mem_of_getElem? hv2
        simp only [List.mem_cons, List.not_mem_nil, or_false] at hm
        rcases hm with e | e | e
        · exact ⟨"0", e, .inl (by decide +kernel)⟩
        · exact ⟨"9", e, .inl (by decide +kernel)⟩
        · exact ⟨"3", e, .inl (by decide +kernel)⟩
      have hI8 : G2 I = some (.lst (its.map V.str)) := k7 _ _ It (f1 _ _ (e79 _ _ hI6))
      refine ⟨I, B, its.map V.str, [.str "/", .str dv, .str "000000000"], rfl, rfl, same_new hB _ _ hI8, upd_same, Evl.sz_of (by rw [lmi]; show _ + 3 ≤ 100000; omega), fun C hC => ?_⟩
      have hX : Its (its ++ (["/", dv, "000000000"] : List Str)) := new_its _ (by simp) (by rw [List.length_append]; show _ + 3 ≤ 60; omega) fun s hs => by
        rcases List.mem_append.mp hs with hs | hs
        · exact .inl hs
        · simp only [List.mem_cons, List.not_mem_nil, or_false] at hs
          rcases hs with rfl | rfl | rfl
          · exact .inr (.inl (by decide +kernel))
          · exact .inr hdv
          · exact .inr (.inl (by decide +kernel))
      have kB : Kept t H6 G2 := (kept_ex (e79.trans f1)).trans k7
      have n1 := same_new (o := .lst [.str "/", .str dv, .str "000000000"]) hB
      have n2 := same_new (o := .lst (its.map V.str ++ [.str "/", .str dv, .str "000000000"])) hC
      refine ⟨" ", C, its ++ (["/", dv, "000000000"] : List Str), rfl, rfl, .inl (Evl.sq_of (by rw [upd_same, List.map_append]; rfl)), ?_, q _ _ hX (((k06.trans kB).trans (kept_ex n1)).trans (kept_ex n2)) (((T7.same n1).same n2).mono (by omega))⟩
      have := hX.sum
      show ((its ++ (["/", dv, "000000000"] : List Str)).map (·.length)).sum + (its ++ (["/", dv, "000000000"] : List Str)).length * 1 ≤ 16777216
      omega
end
end P60
end S_Kr
section S_Wt
namespace Hk
open PySem PySem.Spec PyProof.Rows L2 LamX Tl
/-- the law's own call where no repr is under way, its code object's table tracked -/
theorem law_gTs {P : Program} {w : World} {K : PySem.W.Frag} {mg mb : Str → Option Value} {k : Nat} {fa a : Addr} {Ts : List (Addr × Addr)} {fd : FuncData} {x : Str} {sp : Sp} {s₁ : Shared} {vs : List Value} {ns : List Int}
    (kin : K.In s₁.heap) (hns : s₁.heap.Ns mainGlobals mg) (hb : s₁.heap.Ns builtinsNs mb) (hbb : ∀ x : Str, x ≠ "__name__" → mb x = bootBuiltins x) (hlim : s₁.heap.NoLimit) (hg : s₁.gens = #[])
    (hTs : ∀ p ∈ Ts, s₁.heap.get? p.2 = some { cls := .none, data := .fields #[] } ∧ K.lookup p.2 = none ∧ PySem.W.CodeHd s₁.heap p.1 p.2)
    (hbm : ∃ (bm : Addr) (ob : Obj), mg "__builtins__" = some (.ref bm) ∧ bm ≠ builtinsNs ∧ s₁.heap.get? bm = some ob ∧ ob.cls = .type "module" ∧ ob.dict = some builtinsNs ∧ ob.data = .plain)
    (ha : s₁.heap.get? a = some { cls := .type "list", data := .seq vs.toArray }) (hi : IntsAre vs ns) (hl : ns.length ≤ sizeLine) (hr : Room k callerA)
    (F : ∀ base : Heap, K.In base → base.Ns mainGlobals mg → (∀ p ∈ Ts, TabB base mg p.1 p.2) → FnG P w K mg base k fa fd [x] sp) (hbind : ∀ (s : Shared) (u : Value), BindsTo s fd ⟨[u], []⟩ [(x, u)])
    (hsp : ∀ H : Hp, (∀ p ∈ Ts, H p.2 = some (.tbl #[])) → SqL K H a (ns.map V.int) → sp [.ref a] H (fun v _ => v = .bl true) fun _ _ _ => False) :
    codeAny (model P w) callerA (.call (.ref fa) ⟨[.ref a], []⟩) (fun r s' => r = .ok (.ret (.bool true)) ∧ OldK s₁.heap s'.heap ∧ s'.os = s₁.os ∧ AllBare s'.gens) s₁ := by
  have rv := vals_ints hi
  have tbl : ∀ {b : Addr}, b ∈ Ts.map (·.2) → s₁.heap.get? b = some { cls := .none, data := .fields #[] } ∧ K.lookup b = none := fun {b} hb => by
    obtain ⟨p, hp, rfl⟩ := List.mem_map.mp hb
    exact ⟨(hTs p hp).1, (hTs p hp).2.1⟩
  have aT : a ∉ Ts.map (·.2) := fun z => by
    rw [(tbl z).1] at ha
    have z' : Data.fields #[] = Data.seq vs.toArray _ := congrArg Obj.data (Option.some.inj ha)
    cases z'
  have run : ∀ H : Hp, (∀ p ∈ Ts, H p.2 = some (.tbl #[])) → SqL K H a (ns.map V.int) → HOk P w H s₁.heap → (∀ b u, H b = some u → b ∈ Ts.map (·.2) ∨ (b = a ∧ K.lookup a = none ∧ ∃ o xs, u = .frz o (.lst xs))) →
      codeAny (model P w) callerA (.call (.ref fa) ⟨[.ref a], []⟩) (fun r s' => r = .ok (.ret (.bool true)) ∧ OldK s₁.heap s'.heap ∧ s'.os = s₁.os ∧ AllBare s'.gens) s₁ := by
    intro H hHT hS hok hA
    have keepB : ∀ {b : Addr} {o : Obj}, s₁.heap.get? b = some o → (∀ vs n, o.data ≠ .seq vs n) → o.data ≠ .fields #[] → (hidT s₁.heap H).get? b = some o := fun {b o} e h1 h2 => by
      refine hidT_get e ?_
      cases q : H b with
      | none => rfl
      | some u =>
        rcases hA b u q with e1 | ⟨e1, _⟩
        · rw [(tbl e1).1] at e
          cases e
          exact absurd rfl h2
        · rw [e1, ha] at e
          cases e
          exact absurd rfl (h1 _ _)
    have ns_of : ∀ {b : Addr} {m : Str → Option Value}, s₁.heap.Ns b m → (hidT s₁.heap H).Ns b m := fun {b m} hm => by
      obtain ⟨o, es, ep, e, d, r⟩ := hm
      exact ⟨o, es, ep, keepB e (fun vs n z => by rw [d] at z; cases z) (fun z => by rw [d] at z; cases z), d, r⟩
    have kb : K.In (hidT s₁.heap H) := fun b o e => hidT_get (kin b o e) (by
      cases q : H b with
      | none => rfl
      | some u =>
        rcases hA b u q with e1 | ⟨e1, e2, _⟩
        · rw [(tbl e1).2] at e
          cases e
        · rw [e1, e2] at e
          cases e)
    have hM : Mod K mg (hidT s₁.heap H) := ⟨kb, ns_of hns, ⟨mb, ns_of hb, hbb⟩, hlim.elim fun mc h => ⟨mc, ns_of h.1, h.2⟩⟩
    have e0 : Env0 P w K mg (hidT s₁.heap H) callerA [] s₁ H := ⟨rfl, hM, fun _ _ e => of_hidT e, by rw [hidT_size] <;> exact Nat.le_refl _, trivial, fun _ hb => (nomatch hb), hok, .of_eq hg⟩
    have TB : ∀ p ∈ Ts, TabB (hidT s₁.heap H) mg p.1 p.2 := fun p hp => by
      obtain ⟨hT, nT, hC⟩ := hTs p hp
      refine ⟨?_, ?_, fun z => ?_⟩
      · obtain ⟨o, us, file, tf, flags, tg, inF, text, tt, e1, r1, r2, r3, r4⟩ := hC
        exact ⟨o, us, file, tf, flags, tg, inF, text, tt, keepB e1 (fun vs n z => by rw [r2] at z; cases z) (fun z => by rw [r2] at z; cases z; simp at r3), r1, r2, r3, r4⟩
      · obtain ⟨bm, ob, b1, b2, b3, b4, b5, b6⟩ := hbm
        refine ⟨bm, ob, b1, b2, fun q => ?_, fun q => ?_, keepB b3 (fun vs n z => by rw [b6] at z; cases z) (fun z => by rw [b6] at z; cases z), b4, b5, b6⟩
        · obtain ⟨o, es, ep, e, hd, _⟩ := hns
          rw [q, e] at b3
          cases b3
          rw [hd] at b6
          cases b6
        · rw [q, hT] at b3
          cases b3
          cases b6
      · obtain ⟨o, es, ep, e, hd, _⟩ := hns
        rw [z, hT] at e
        cases e
        cases hd
    refine codeAny_mono ((F _ kb (ns_of hns) TB).go rfl hr e0 (us := [.ref a]) (hbind s₁ (.ref a)) (vs := [.ref a]) (.cons rfl .nil) (hsp H hHT hS)) fun r s' h => ?_
    match r, h with
    | .ok (.ret u), h =>
      obtain ⟨v, H', os, bare, un, hok', r', q⟩ := h
      cases (show v = .bl true from q)
      cases (show u = Value.bool true from r')
      have grown : ∀ p ∈ Ts, ∃ more, s'.heap.get? p.2 = some { cls := .none, data := .fields more } := fun p hp => by
        obtain ⟨more, zT⟩ := un.tbls p.2 #[] (hHT p hp)
        have q := hok' p.2 _ zT
        rw [Array.empty_append] at q
        exact ⟨more, q⟩
      have others : ∀ b o, b ∉ Ts.map (·.2) → s₁.heap.get? b = some o → s'.heap.get? b = some o := fun b o nb e => by
        cases q : H b with
        | none => exact un.keep b o e q (fun y => (nomatch y)) (fun y => (nomatch y))
        | some u =>
          rcases hA b u q with z | ⟨_, _, ob, xs, rfl⟩
          · exact absurd z nb
          · obtain ⟨e1, _⟩ := hok b _ q
            obtain ⟨e2, _⟩ := hok' b _ (un.frzs b ob _ q)
            rw [e] at e1
            cases e1
            exact e2
      refine ⟨rfl, ⟨fun b o e => ?_, fun b o e => ?_⟩, os, bare⟩
      · by_cases hb : b ∈ Ts.map (·.2)
        · obtain ⟨p, hp, rfl⟩ := List.mem_map.mp hb
          obtain ⟨hT, _, hC⟩ := hTs p hp
          obtain ⟨more, hm⟩ := grown p hp
          rw [hT] at e
          cases e
          exact .inr (.inl ⟨(hC.tab hT).isCodeTable, rfl, #[], more, rfl, by rw [Array.empty_append]; exact hm⟩)
        · exact .inl (others b o hb e)
      · by_cases hb : b ∈ Ts.map (·.2)
        · obtain ⟨p, hp, rfl⟩ := List.mem_map.mp hb
          obtain ⟨more, hm⟩ := grown p hp
          exact ⟨_, hm⟩
        · exact ⟨o, others b o hb e⟩
    | .error e, h => exact False.elim h
    | .ok .next, h => exact False.elim h
    | .ok .brk, h => exact False.elim h
    | .ok .cont, h => exact False.elim h
  have mem : ∀ p ∈ Ts, p.2 ∈ Ts.map (·.2) := fun p hp => List.mem_map.mpr ⟨p, hp, rfl⟩
  cases hk : K.lookup a with
  | some o =>
    have e := kin a o hk
    rw [ha] at e
    cases e
    refine run (fun b => if b ∈ Ts.map (·.2) then some (.tbl #[]) else none) (fun p hp => if_pos (mem p hp)) (.inr ⟨_, vs.toArray, _, hk, rfl, rfl, rfl, ?_, by simpa using rv⟩) (fun b u z => ?_) (fun b u z => ?_)
    · rw [List.size_toArray, hi.length]
      exact hl
    · dsimp only at z
      by_cases hb : b ∈ Ts.map (·.2)
      · rw [if_pos hb] at z
        cases z
        exact (tbl hb).1
      · rw [if_neg hb] at z
        cases z
    · by_cases hb : b ∈ Ts.map (·.2)
      · exact .inl hb
      · rw [if_neg hb] at z
        cases z
  | none =>
    refine run (fun b => if b ∈ Ts.map (·.2) then some (.tbl #[]) else if b = a then some (.frz { cls := .type "list", data := .seq vs.toArray } (.lst (ns.map V.int))) else none) (fun p hp => if_pos (mem p hp)) (.inl (.inr ⟨_, by dsimp only; rw [if_neg aT, if_pos rfl]⟩)) (fun b u z => ?_) fun b u z => ?_
    · dsimp only at z
      by_cases hb : b ∈ Ts.map (·.2)
      · rw [if_pos hb] at z
        cases z
        exact (tbl hb).1
      · rw [if_neg hb] at z
        by_cases hb2 : b = a
        · rw [if_pos hb2] at z
          cases z
          subst hb2
          exact ⟨ha, by rw [List.length_map]; exact hl, vs, _, rv, ha⟩
        · rw [if_neg hb2] at z
          cases z
    · by_cases hb : b ∈ Ts.map (·.2)
      · exact .inl hb
      · rw [if_neg hb] at z
        by_cases hb2 : b = a
        · rw [if_pos hb2] at z
          cases z
          exact .inr ⟨hb2, hk, _, _, rfl⟩
        · rw [if_neg hb2] at z
          cases z
/-- what is known of a def whose lambdas' table is tracked -/
def TabOf (K : PySem.W.Frag) (mg : Str → Option Value) (q : Program) (p : Addr × Addr) : Prop := ∃ (name : Str) (f : Addr) (fd : FuncData) (o : Obj) (e : Value) (dd : Option Addr) (vs : Array Value) (sl : Array (Option Value)),
  ((recsOf q).any fun e => e.name == name) = true ∧ mg name = some (.ref f) ∧ K.lookup f = some o ∧ o.data = .func fd ∧ fd.code = .ref p.1 ∧ K.lookup p.1 = some ⟨e, dd, .fields vs, sl⟩ ∧ vs[11]? = some (.ref p.2) ∧ K.lookup p.2 = none
theorem walk_gTs {l : PySem.W.OpenLaw} {n k : Nat} {q : Program} {loose : List Str} {XP : (Str → Option Value) → Heap → Prop} {YP : World → Heap → Prop} {d : DefRec} {K : Params → PySem.W.Frag} {x : Str}
    (hn : l.most = some n) (hn2 : n ≤ sizeLine) (hdf : d.params.defaults = []) (hr : Room k callerA) (hY : ∀ (w : World) (h : Heap), YP w h → (K w.params).In h)
    (F : ∀ (w : World) (mg : Str → Option Value) (fa : Addr) (h : Heap), (K w.params).In h → h.Ns mainGlobals mg → mg d.name = some (.ref fa) →
      ∃ (fd : FuncData) (Ts : List (Addr × Addr)) (sp : Sp), (∀ p ∈ Ts, TabOf (K w.params) mg q p) ∧ (∀ (s : Shared) (u : Value), BindsTo s fd ⟨[u], []⟩ [(x, u)]) ∧
        (∀ (H : Hp) (a : Addr) (ns : List Int), ns.length ≤ n → (∀ p ∈ Ts, H p.2 = some (.tbl #[])) → SqL (K w.params) H a (ns.map V.int) → sp [.ref a] H (fun v _ => v = .bl true) fun _ _ _ => False) ∧
        ∀ base : Heap, (K w.params).In base → base.Ns mainGlobals mg → (∀ p ∈ Ts, TabB base mg p.1 p.2) → FnG l.prog w (K w.params) mg base k fa fd [x] sp) :
    PySem.W.WalkO q loose XP YP l.row.toRowW d [] (fun f vs => PySem.call f vs) := by
  refine Att.attach_call hn hdf fun w s₀ s₁ mg mb fa o pm cd doc a vs ns G Y ho hd hcd hmg hobj hints hlen hg => ?_
  have kin := hY w _ Y
  obtain ⟨fd, Ts, sp, hTs, h1, hs, h2⟩ := F w mg fa _ kin G.T.g hmg
  have ts : ∀ p ∈ Ts, s₁.heap.get? p.2 = some { cls := .none, data := .fields #[] } ∧ (K w.params).lookup p.2 = none ∧ PySem.W.CodeHd s₁.heap p.1 p.2 := fun p hp => by
    obtain ⟨name, f, fd', o1, e, dd, us, sl, hrec, hmf, k1, k2, k3, k4, k5, nT⟩ := hTs p hp
    obtain ⟨dL, hm, hn1⟩ := List.any_eq_true.mp hrec
    have hn2' : dL.name = name := beq_iff_eq.mp hn1
    obtain ⟨a', o', fd2, c', P', g1, g2, g3, g4, g5, g6⟩ := G.T.tab dL hm
    rw [hn2', hmf] at g1
    cases g1
    have q1 := kin _ _ k1
    rw [q1] at g2
    cases g2
    rw [k2] at g3
    cases g3
    rw [k3] at g4
    cases g4
    have hC := PySem.W.CodeHd.of g5 g6
    obtain ⟨⟨oc, vc, e1, _, e3, e4⟩, hP⟩ := g6
    have q2 := kin _ _ k4
    rw [q2] at e1
    cases e1
    cases e3
    rw [k5] at e4
    cases e4
    exact ⟨hP, nT, hC⟩
  exact law_gTs kin G.T.g G.T.b G.T.builtins G.T.nolimit hg ts G.T.bmain hobj hints (Nat.le_trans hlen hn2) hr h2 h1 fun H hHT hS => hs H a ns hlen hHT hS
end Hk
end S_Wt
section S_Wv
namespace Hk
open PySem PySem.Spec PyProof.Rows L2 LamX Tl
/-- repr of data at an address, of None or of a truth -/
def rReprX (K : PySem.W.Frag) : List V → Hp → VK → Prop := fun xs H Q => rReprB K xs H Q ∨ ∃ b : Bool, xs = [.bl b] ∧ Q (.str (if b then "True" else "False")) H
theorem call_reprX {X : Cx} (hg : X.A.guards = some []) (hu : X.A.units + 64 < cLine) : CallR X (.builtin "repr") (rReprX X.K) := by
  intro pins s σ H xs us Q I r h
  rcases h with h | ⟨b, rfl, q⟩
  · exact call_reprB hg hu _ _ _ _ _ _ _ I r h
  · obtain ⟨u, rfl, ru⟩ := vals1 r
    cases ru
    exact PySem.P.repr_of_bool ⟨.str (if b then "True" else "False"), H, I.tok _, ⟨_, rfl⟩, q⟩
theorem ev_reprT {K : PySem.W.Frag} {te : TE} {σ : L2.St} {H : Hp} {b : Bool} (h : Evl.Ev te σ H (.bl b)) : Evl.Ev (tCB (rReprX K) (tCons te tNil)) σ H (.str (if b then "True" else "False")) := fun H1 e Q q =>
  h H1 e _ fun H2 e2 => .inr ⟨b, rfl, q H2 e2⟩
theorem strip_tb {T t : Addr} {H : Hp} {ps : Array Value} (hT : H T = some (.tbl ps)) {a : Addr} {o : HO} (h : H a = some o) (hn : ∀ ps, o ≠ .tbl ps) : strip T H a = some o := strip_at h (fun z => by
  rw [z, hT] at h
  exact hn ps (Option.some.inj h).symm) hn
theorem strip_extN {T : Addr} {H H' : Hp} {ps : Array Value} (hT : H T = some (.tbl ps)) (e : Evl.Ex (strip T H) H') : ExtN H H' := fun a o h hn => e a o (strip_tb (t := T) hT h hn)
end Hk
end S_Wv
section S_Ks
namespace P60
open PySem PySem.Spec PyProof.Rows L2 Tl Hk LamX
theorem sql_strip {K : PySem.W.Frag} {H : Hp} {T a : Addr} {xs : List V} {ps : Array Value} (hT : H T = some (.tbl ps)) (h : SqL K H a xs) : SqL K (strip T H) a xs := by
  rcases h with (h | ⟨o, h⟩) | h
  · exact .inl (.inl (strip_tb (t := T) hT h fun ps z => nomatch z))
  · exact .inl (.inr ⟨o, strip_tb (t := T) hT h fun ps z => nomatch z⟩)
  · exact .inr h
theorem sqt_strip {K : PySem.W.Frag} {H : Hp} {T a : Addr} {xs : List V} {ps : Array Value} (hT : H T = some (.tbl ps)) (h : SqT K H a xs) : SqT K (strip T H) a xs := by
  rcases h with (h | ⟨o, h⟩) | h
  · exact .inl (.inl (strip_tb (t := T) hT h fun ps z => nomatch z))
  · exact .inl (.inr ⟨o, strip_tb (t := T) hT h fun ps z => nomatch z⟩)
  · exact .inr h
theorem Ty7.strip {K : PySem.W.Frag} {H : Hp} {T : Addr} {x : V} {n : String} {ps : Array Value} (hT : H T = some (.tbl ps)) (h : Ty7 K H x n) : Ty7 K (Hk.strip T H) x n := by
  cases h with
  | non => exact .non
  | bl b => exact .bl b
  | int i => exact .int i
  | str s => exact .str s
  | lst h => exact .lst (sql_strip hT h)
  | tup h => exact .tup (sqt_strip hT h)
  | dK h => exact .dK (strip_tb (t := T) hT h fun ps z => nomatch z)
theorem TxV.strip {K : PySem.W.Frag} {H : Hp} {T : Addr} {x : V} {r : Option Lb} {ps : Array Value} (hT : H T = some (.tbl ps)) (h : TxV K H x r) : TxV K (Hk.strip T H) x r := by
  cases h with
  | no h hn => exact .no (h.strip hT) hn
  | bad h hn => exact .bad h hn
  | yes h hL => exact .yes h hL
/-- what a label tells, as data -/
def labD (L : Lb) : PyData := .tuple [.tuple [.int (L.p : Int), .int (L.l : Int), .int (L.n : Int)], .tuple (L.near.map fun q => .tuple [.int (q.1 : Int), .str (sS q.2)])]
theorem dpa_rows {K : PySem.W.Frag} {H : Hp} : ∀ {rs : List Addr} {near : List (Nat × List Bool)}, RowsP H rs near → DpAll K H (rs.map V.ref) (near.map fun q => .tuple [.int (q.1 : Int), .str (sS q.2)])
  | [], [], _ => .nil
  | r :: rs, q :: near, h => .cons (.tup (Evl.st_of (h.2 0 r q rfl rfl)) (.cons (.int _) (.cons (.str _) .nil))) (dpa_rows ⟨Nat.succ.inj h.1, fun i r' q' a b => h.2 (i + 1) r' q' a b⟩)
  | [], _ :: _, h => nomatch h.1
  | _ :: _, [], h => nomatch h.1
theorem dp_lab {K : PySem.W.Frag} {H : Hp} {A : Addr} {L : Lb} (h : LabAt H A L) : Dp K H (.ref A) (labD L) := by
  obtain ⟨S, N, a1, a2, rs, a3, a4⟩ := h
  exact .tup (Evl.st_of a1) (.cons (.tup (Evl.st_of a2) (.cons (.int _) (.cons (.int _) (.cons (.int _) .nil)))) (.cons (.tup (Evl.st_of a3) (dpa_rows a4)) .nil))
set_option maxHeartbeats 4000000 in
theorem sS_shown9 : ∀ b0 b1 b2 b3 b4 b5 b6 b7 b8 : Bool, (PyData.str (sS [b0, b1, b2, b3, b4, b5, b6, b7, b8])).shown.length ≤ 20 := by decide +kernel
theorem sS_shown {b : List Bool} (h : b.length = 9) : (PyData.str (sS b)).shown.length ≤ 20 := by
  obtain ⟨b0, b1, b2, b3, b4, b5, b6, b7, b8, rfl⟩ := nine h
  exact sS_shown9 ..
theorem n_shown : ∀ n, n < 1000 → (PyData.int ((n : Nat) : Int)).shown.length ≤ 20 ∧ (PyData.int ((n : Nat) : Int)).showable = true := by decide +kernel
theorem tup_le {ds : List PyData} {c : Nat} (h : ∀ d ∈ ds, d.shown.length ≤ c) : (PyData.tuple ds).shown.length ≤ ds.length * (c + 2) + 3 := by
  show (tupleText (PyData.shownAll ds)).length ≤ _
  rw [shownAll_eq]
  have := tupText_le (ts := ds.map PyData.shown) (c := c) fun t ht => by
    obtain ⟨d, hd, rfl⟩ := List.mem_map.mp ht
    exact h d hd
  rwa [List.length_map] at this
theorem show_all : ∀ {ds : List PyData}, (∀ d ∈ ds, d.showable = true) → PyData.showableAll ds = true
  | [], _ => rfl
  | d :: r, h => by
    unfold PyData.showableAll
    rw [h d List.mem_cons_self, show_all fun x hx => h x (List.mem_cons_of_mem _ hx)]
    rfl
theorem plain_all : ∀ {ds : List PyData}, (∀ d ∈ ds, d.hasDict = false) → PyData.hasDictAll ds = false
  | [], _ => rfl
  | d :: r, h => by
    unfold PyData.hasDictAll
    rw [h d List.mem_cons_self, plain_all fun x hx => h x (List.mem_cons_of_mem _ hx)]
    rfl
theorem lab_all {L : Lb} (h : L.Ok) : (labD L).shown.length ≤ 1000 ∧ (labD L).showable = true ∧ (labD L).hasDict = false ∧ (labD L).depth ≤ 20 := by
  have hp := n_shown L.p (by have := h.hp; omega)
  have hl := n_shown L.l (by have := h.hl; omega)
  have hn := n_shown L.n (by have := h.hn; omega)
  have hq : ∀ q ∈ L.near, (PyData.tuple [.int (q.1 : Int), .str (sS q.2)]).shown.length ≤ 47 ∧ (PyData.tuple [.int (q.1 : Int), .str (sS q.2)]).showable = true := fun q hq => by
    obtain ⟨q1, q2, _⟩ := h.near.each q hq
    have a1 := n_shown q.1 (by omega)
    have a2 := sS_shown q2
    refine ⟨tup_le (ds := [.int (q.1 : Int), .str (sS q.2)]) (c := 20) fun d hd => ?_, show_all (ds := [.int (q.1 : Int), .str (sS q.2)]) fun d hd => ?_⟩
    · simp only [List.mem_cons, List.not_mem_nil, or_false] at hd
      rcases hd with rfl | rfl
      · exact a1.1
      · exact a2
    · simp only [List.mem_cons, List.not_mem_nil, or_false] at hd
      rcases hd with rfl | rfl
      · exact a1.2
      · rfl
  have n4 := h.near.len
  have b1 : (PyData.tuple [.int (L.p : Int), .int (L.l : Int), .int (L.n : Int)]).shown.length ≤ 69 := tup_le (c := 20) fun d hd => by
    simp only [List.mem_cons, List.not_mem_nil, or_false] at hd
    rcases hd with rfl | rfl | rfl
    · exact hp.1
    · exact hl.1
    · exact hn.1
  have b2 : (PyData.tuple (L.near.map fun q => PyData.tuple [.int (q.1 : Int), .str (sS q.2)])).shown.length ≤ 199 := by
    have := tup_le (ds := L.near.map fun q => PyData.tuple [.int (q.1 : Int), .str (sS q.2)]) (c := 47) fun d hd => by
      obtain ⟨q, hq', rfl⟩ := List.mem_map.mp hd
      exact (hq q hq').1
    rw [List.length_map] at this
    omega
  refine ⟨?_, ?_, ?_, ?_⟩
  · have := tup_le (ds := [.tuple [.int (L.p : Int), .int (L.l : Int), .int (L.n : Int)], .tuple (L.near.map fun q => PyData.tuple [.int (q.1 : Int), .str (sS q.2)])]) (c := 199) fun d hd => by
      simp only [List.mem_cons, List.not_mem_nil, or_false] at hd
      rcases hd with rfl | rfl
      · omega
      · exact b2
    refine Nat.le_trans this ?_
    show 2 * (199 + 2) + 3 ≤ 1000
    decide
  · refine show_all (ds := [.tuple [.int (L.p : Int), .int (L.l : Int), .int (L.n : Int)], .tuple (L.near.map fun q => PyData.tuple [.int (q.1 : Int), .str (sS q.2)])]) fun d hd => ?_
    simp only [List.mem_cons, List.not_mem_nil, or_false] at hd
    rcases hd with rfl | rfl
    · refine show_all (ds := [.int (L.p : Int), .int (L.l : Int), .int (L.n : Int)]) fun d hd => ?_
      simp only [List.mem_cons, List.not_mem_nil, or_false] at hd
      rcases hd with rfl | rfl | rfl
      · exact hp.2
      · exact hl.2
      · exact hn.2
    · refine show_all (ds := L.near.map fun q => PyData.tuple [.int (q.1 : Int), .str (sS q.2)]) fun d hd => ?_
      obtain ⟨q, hq', rfl⟩ := List.mem_map.mp hd
      exact (hq q hq').2
  · refine plain_all (ds := [.tuple [.int (L.p : Int), .int (L.l : Int), .int (L.n : Int)], .tuple (L.near.map fun q => PyData.tuple [.int (q.1 : Int), .str (sS q.2)])]) fun d hd => ?_
    simp only [List.mem_cons, List.not_mem_nil, or_false] at hd
    rcases hd with rfl | rfl
    · rfl
    · refine plain_all (ds := L.near.map fun q => PyData.tuple [.int (q.1 : Int), .str (sS q.2)]) fun d hd => ?_
      obtain ⟨q, hq', rfl⟩ := List.mem_map.mp hd
      rfl
  · have e1 : (PyData.tuple [.int (L.p : Int), .int (L.l : Int), .int (L.n : Int)]).depth ≤ 5 := by
      show PyData.depthAll [.int (L.p : Int), .int (L.l : Int), .int (L.n : Int)] + 1 ≤ 5
      have := deep_all (c := 1) (ds := [.int (L.p : Int), .int (L.l : Int), .int (L.n : Int)]) fun d hd => by
        simp only [List.mem_cons, List.not_mem_nil, or_false] at hd
        rcases hd with rfl | rfl | rfl <;> exact Nat.zero_le _
      omega
    have e2 : (PyData.tuple (L.near.map fun q => PyData.tuple [.int (q.1 : Int), .str (sS q.2)])).depth ≤ 5 := by
      show PyData.depthAll (L.near.map fun q => PyData.tuple [.int (q.1 : Int), .str (sS q.2)]) + 1 ≤ 5
      have := deep_all (c := 2) (ds := L.near.map fun q => PyData.tuple [.int (q.1 : Int), .str (sS q.2)]) fun d hd => by
        obtain ⟨q, hq', rfl⟩ := List.mem_map.mp hd
        show PyData.depthAll [.int (q.1 : Int), .str (sS q.2)] + 1 ≤ 2
        have := deep_all (c := 0) (ds := [.int (q.1 : Int), .str (sS q.2)]) fun d hd => by
          simp only [List.mem_cons, List.not_mem_nil, or_false] at hd
          rcases hd with rfl | rfl <;> exact Nat.zero_le _
        omega
      omega
    show PyData.depthAll [.tuple [.int (L.p : Int), .int (L.l : Int), .int (L.n : Int)], .tuple (L.near.map fun q => PyData.tuple [.int (q.1 : Int), .str (sS q.2)])] + 1 ≤ 20
    have := deep_all (c := 5) (ds := [.tuple [.int (L.p : Int), .int (L.l : Int), .int (L.n : Int)], .tuple (L.near.map fun q => PyData.tuple [.int (q.1 : Int), .str (sS q.2)])]) fun d hd => by
      simp only [List.mem_cons, List.not_mem_nil, or_false] at hd
      rcases hd with rfl | rfl
      · exact e1
      · exact e2
    omega
theorem ev_reprL {K : PySem.W.Frag} {te : TE} {σ : L2.St} {H : Hp} {L : Lb} (hL : L.Ok) (h : ∀ H1, Evl.Ex H H1 → ∀ Q : VK, (∀ A H2, Evl.Ex H1 H2 → LabAt H2 A L → Q (.ref A) H2) → te σ H1 Q) : Evl.Ev (tCB (rReprX K) (tCons te tNil)) σ H (.str (labD L).shown) := fun H1 e Q q =>
  h H1 e _ fun A H2 e2 hA => .inl (.inl ⟨A, labD L, rfl, dp_lab hA, (lab_all hL).2.1, (lab_all hL).2.2.1, (lab_all hL).2.2.2, by rw [sizeLine_eq]; have := (lab_all hL).1; omega, q H2 e2⟩)
abbrev nmT : Str := "_law_text_right.<locals>.<lambda>"
abbrev nmP : Str := "_law_parts_right.<locals>.<lambda>"
abbrev Ts (T1 T2 : Addr) : List (Addr × Str) := [(T1, nmT), (T2, nmP)]
def spTextRight (K : PySem.W.Frag) (T1 T2 : Addr) : Sp := fun vs H Q _ => ∃ (x : V) (r : Option Lb), vs = [x] ∧ TxV K H x r ∧ Tabs (Ts T1 T2) H ∧ ∀ H', ExtN H H' → Tabs (Ts T1 T2) H' → Q (.bl true) H'
abbrev nTR : List Str := ["value", "due", "lone", "heard"]
theorem scTR : FnScope nTR ["value"] (defScope sLTextRight) := ⟨rfl, rfl, rfl, by decide +kernel, rfl, by decide +kernel, by decide +kernel⟩
theorem ha1 : ("a1" : Str) ∉ nTR := by decide
theorem ha2 : ("a2" : Str) ∉ nTR := by decide
def L0 : Lb := ⟨0, 0, 0, [(0, List.replicate 9 false)]⟩
theorem L0_ok : L0.Ok := ⟨by decide, by decide, by decide, ⟨by decide, ⟨List.replicate 9 false, [], rfl, .nil, by decide⟩, fun q hq => by
  rw [List.mem_singleton.mp hq]
  exact ⟨by decide, rfl, fun _ => rfl, fun _ => by decide⟩⟩⟩
theorem L0_txt : txt (items L0) = "0 0 0 / 0 000000000" := by decide +kernel
theorem L0_its : Its (items L0) := ⟨by decide, by decide, fun s hs => by
  have : ∀ s ∈ items L0, s ∈ base0 := by decide +kernel
  exact .inl (this s hs)⟩
theorem L0_tx {K : PySem.W.Frag} {H : Hp} : TxV K H (.str "0 0 0 / 0 000000000") (some L0) := by
  have := TxV.yes (K := K) (H := H) L0_its ⟨L0_ok, rfl⟩
  rwa [L0_txt] at this
end P60
end S_Ks
section S_Kt
namespace P60
open PySem PySem.Spec PyProof.Rows L2 Tl Hk LamX
def just1 {α : Type} : List α → List α → List α := fun _ ws => ws
theorem cons_u {te : TE} {tr : TA} {σ : L2.St} {H : Hp} {Q : List V → Hp → Prop} {xs : List V} (h : Evl.EvU te σ H xs) (k : ∀ p H1, H p = none → Evl.Ex H H1 → H1 p = some (.tup xs) → tr σ H1 fun vs H2 => Q (.ref p :: vs) H2) : tCons te tr σ H Q := h H (Evl.Ex.refl H) _ k
theorem eu_two {s1 s2 : Str} {σ : L2.St} {G : Hp} : Evl.EvU (tTup (tCons (tC (.str s1)) (tCons (tC (.str s2)) tNil))) σ G [.str s1, .str s2] := Evl.eu_tup (Evl.ea_cons Evl.ev_c (Evl.ea_cons Evl.ev_c Evl.ea_nil)) (by show 2 ≤ 100000; decide)
theorem asg_lst {ta : TA} {i : Nat} {tz : TS} {D : Ends} {σ : L2.St} {H : Hp} (h : ta σ H fun vs H1 => vs.length ≤ sizeLine ∧ ∀ p, H1 p = none → tz D (σ.set i (some (.ref p))) (upd H1 p (.lst vs))) : tSeq (tAsg (tLst ta) (gName i)) tz D σ H := h
/-- a list of pairs of texts, as data -/
def twoD (ss : List (Str × Str)) : PyData := .list (ss.map fun q => .tuple [.str q.1, .str q.2])
theorem just_rel {vs zs : List V} {us ws : List Value} (_ : Vals vs us) (h : Vals zs ws) : Vals zs ws := h
theorem ev_notN {te : TE} {σ : L2.St} {H : Hp} {x : V} (h : Evl.Ev te σ H x) : Evl.Ev (tOp (fun x y H Q => y = .non ∧ Q (.bl (!decide (x = .non))) H) te (tC .non)) σ H (.bl (!decide (x = .non))) := fun H1 e Q q =>
  h H1 e _ fun H2 e2 => ⟨rfl, q H2 e2⟩
theorem et_neStr {ta tb : TE} {σ : L2.St} {H : Hp} {z : Str} (h1 : Evl.Ev ta σ H (.str z)) (h2 : Evl.Ev tb σ H (.str z)) : Evl.EvT (tTest (tOp rNe ta tb)) σ H false :=
  Evl.et_is (Evl.et_test (Evl.ev_op h1 h2 (Evl.rv_ne rfl))) (by simp)
/-- is_label(value=value) -/
theorem ev_isLabelK {K : PySem.W.Frag} {σ : L2.St} {H : Hp} {x : V} {r : Option Lb} {i : Nat} (hi : σ[i]? = some (some x)) (hx : TxV K H x r) : Evl.Ev (tCallN 0 1 (spIsLabel K) just1 E0 tNil (tCons (tVar i) tNil)) σ H (.bl r.isSome) := fun H1 e Q q =>
  ⟨x, hi, rfl, rfl, x, r, rfl, hx.ex e, q⟩
theorem short_piece {q : Nat × List Bool} (h : q.2.length = 9) : ShortS (pieceIs q) := fun xs e z hz => by
  cases e
  simp only [List.mem_cons, List.not_mem_nil, or_false] at hz
  rcases hz with hz | hz
  · cases hz
  · rw [V.str.inj hz, sS_len, h]
    decide
theorem ty_piece {K : PySem.W.Frag} {H : Hp} {a : Int} {s : Str} : ∀ v ∈ [V.int a, V.str s], ∃ n, Ty7 K H v n := fun v hv => by
  simp only [List.mem_cons, List.not_mem_nil, or_false] at hv
  rcases hv with rfl | rfl
  · exact ⟨_, .int _⟩
  · exact ⟨_, .str _⟩
theorem val_pair {K : PySem.W.Frag} {H : Hp} {r : Addr} {q : Nat × List Bool} (h : PairAt H r q) : ValR K H (.ref r) (pieceIs q) := .tup (Evl.st_of h) (by show 2 ≤ 4000; decide) ty_piece
theorem val_pairL {K : PySem.W.Frag} {H : Hp} {r : Addr} {q : Nat × List Bool} (h : H r = some (.lst [.int (q.1 : Int), .str (sS q.2)])) : ValR K H (.ref r) (pieceIs q) := .lst (Evl.sq_of h) (by show 2 ≤ 4000; decide) ty_piece
theorem ty_pairs {K : PySem.W.Frag} {H : Hp} {rs : List Addr} {near : List (Nat × List Bool)} (h : RowsP H rs near) : ∀ v ∈ rs.map V.ref, ∃ n, Ty7 K H v n := fun v hv => by
  obtain ⟨r, hr, rfl⟩ := List.mem_map.mp hv
  obtain ⟨i, hi⟩ := List.getElem?_of_mem hr
  obtain ⟨hi', e⟩ := List.getElem?_eq_some_iff.mp hi
  have hn : i < near.length := by rw [← h.1]; exact hi'
  exact ⟨_, .tup (Evl.st_of (h.2 i r near[i] hi (List.getElem?_eq_getElem hn)))⟩
theorem dv_near {K : PySem.W.Frag} {H : Hp} {N : Addr} {near : List (Nat × List Bool)} (h : NearAt H N near) (hl : near.length ≤ 100) (h9 : ∀ q ∈ near, q.2.length = 9) : DV K H (.ref N) (some (near.map pieceIs)) := by
  obtain ⟨rs, h1, h2⟩ := h
  refine ⟨rs.map V.ref, .tup (Evl.st_of h1) (by rw [List.length_map, h2.1]; omega) (ty_pairs h2), by rw [List.length_map, List.length_map, h2.1], fun i v d hv hd => ?_⟩
  rw [List.getElem?_map] at hv hd
  obtain ⟨r, hr, rfl⟩ := Option.map_eq_some_iff.mp hv
  obtain ⟨q, hq, rfl⟩ := Option.map_eq_some_iff.mp hd
  exact ⟨val_pair (h2.2 i r q hr hq), short_piece (h9 q (List.mem_of_getElem? hq))⟩
theorem val_seat {K : PySem.W.Frag} {H : Hp} {S : Addr} {p l n : Nat} (h : H S = some (.tup (seatL p l n))) : ValR K H (.ref S) (seatIs p l n) := .tup (Evl.st_of h) (by show 3 ≤ 4000; decide) fun v hv => by
  simp only [List.mem_cons, List.not_mem_nil, or_false] at hv
  rcases hv with rfl | rfl | rfl <;> exact ⟨_, .int _⟩
theorem spv_labelText {K : PySem.W.Frag} {CS CL : Addr} {H : Hp} {x y : V} {L : Lb} (hL : L.Ok) (hS : ValR K H x (seatIs L.p L.l L.n)) (hN : DV K H y (some (L.near.map pieceIs))) : Evl.SpV (spLabelText K CS CL) [x, y] H (.str (txt (items L))) := fun H1 e Q q E =>
  ⟨x, y, _, rfl, hS.ex e, fun hn => absurd ⟨L.p, L.l, L.n, rfl, hL.hn, hL.hp, hL.hl⟩ hn, fun p l n ho hn hp hl => by
    obtain ⟨rfl, rfl, rfl⟩ := seat_eq ho
    refine ⟨_, hN.ex e, fun hnn => absurd ⟨L.near, rfl, hL.near⟩ hnn, fun near en _ H2 e2 => ?_⟩
    obtain rfl : L.near = near := (List.map_inj_right fun a b h => pieceIs_inj h).mp (Option.some.inj en)
    exact q H2 e2⟩
section
variable {P : Program} {w : World} {K : PySem.W.Frag} {mg : Str → Option Value} {base : Heap}
set_option maxHeartbeats 4000000 in
theorem ok_textRight {f fR fI fT fA fX fH CL CS CE c T1 T2 : Addr} {fd fdR fdI fdT fdA fdX fdH : FuncData} {k : Nat} (F : Fun K "_law_text_right" "_law_text_right" sLTextRight f fd) (hcode : fd.code = .ref c) (TB : TabB base mg c T1) (hne : T1 ≠ T2)
    (FR : Fun K "_law_read" "_law_read" sLRead fR fdR) (GR : FnOk P w K mg base CX0 k fR fdR ["value"] (spRead K)) (bR : Binds K fdR ["value"] []) (gR : mg "_law_read" = some (.ref fR))
    (FI : Fun K "is_label" "is_label" sIsLabel fI fdI) (GI : FnOk P w K mg base CX0 k fI fdI ["value"] (spIsLabel K)) (kI : KBn K fdI ["value"] 0 ["value"] just1 just1) (gI : mg "is_label" = some (.ref fI))
    (FT : Fun K "told_label" "told_label" sToldLabel fT fdT) (GT : FnOk P w K mg base (L2.CX P w) k fT fdT ["label"] (spTold K CL)) (bT : Binds K fdT ["label"] []) (kT : KBn K fdT ["label"] 0 ["label"] just1 just1) (gT : mg "told_label" = some (.ref fT))
    (FA : Fun K "are_tied" "are_tied" sAreTied fA fdA) (GA : FnOk P w K mg base (L2.CX P w) k fA fdA ["one", "other"] (spAre K CL)) (bA : Binds K fdA ["one", "other"] []) (gA : mg "are_tied" = some (.ref fA))
    (FX : Fun K "label_text" "label_text" sLabelText fX fdX) (GX : FnOk P w K mg base (L2.CX P w) k fX fdX ["seat", "near"] (spLabelText K CS CL)) (bX : Binds K fdX ["seat", "near"] []) (gX : mg "label_text" = some (.ref fX))
    (FH : Fun K "_law_heard" "_law_heard" sHeard fH fdH) (bH : Binds K fdH ["ask"] []) (gH : mg "_law_heard" = some (.ref fH)) (E2 : TE60 K mg CL CS CE)
    (mi : mg "isinstance" = none) (mrepr : mg "repr" = none) :
    FnG P w K mg base (k + 3) f fd ["value"] (spTextRight K T1 T2) := by
  obtain ⟨ocH, odH, kVH, docH, pmH, anH, cdH, ctH, oslH, rfl, lkH, hcdH⟩ := FH.ex
  refine fn_gC F hcode scTR (fun {vs H Q E} h => ?_) (fun A outer s H vs Q E hgd hr h => ?_)
  · obtain ⟨x, r, rfl, _⟩ := h
    rfl
  · obtain ⟨x, r, rfl, hx, hTabs, q⟩ := h
    have nd := scTR.nd
    have hk := hr.mono (show k ≤ k + 2 by omega)
    have hTm : (T1, nmT) ∈ Ts T1 T2 := List.mem_cons_self
    have hu : ∀ p ∈ Ts T1 T2, p.1 = T1 → p.2 = nmT := fun p hp e => by
      simp only [List.mem_cons, List.not_mem_nil, or_false] at hp
      rcases hp with rfl | rfl
      · rfl
      · exact absurd e.symm hne
    refine ⟨_, pss_cons (ps_set (i := 1) nd rfl (.inl rfl) (pe_call GR hk (by rfl) gR FR.kp bR .nil pass0 (pa_cons (pv 0) pa_nil)))
      (pss_cons (ps_if (pt_cmpR op_ne (pe_callB (call_reprX hgd hr.units) (by rfl) mrepr (by decide +kernel) (pa_cons (pe_callN0 GI hk (by rfl) gI FI.kp kI pass0 (pk_cons (pv 0) pk_nil)) pa_nil)) (pe_callB (call_reprX hgd hr.units) (by rfl) mrepr (by decide +kernel) (pa_cons (pe_cmpR op_notN (pv 1) pe_non (nomark _)) pa_nil)) (nomark _)) (pss_one (ps_ret pe_bl)) pss_nil)
      (pss_cons (ps_if (pt_cmpR op_isN (pv 1) pe_non (nomark _)) (pss_cons (ps_set (i := 2) nd rfl (.inr rfl) pe_str)
          (pss_cons (ps_set (i := 3) nd rfl (.inl rfl) (pe_lst (pa_cons
            (pe_lamcall (k := k) (T := Ts T1 T2) (t := fun E => tCallS (spTold K CL) (fun _ => E) (tCons (tVar 0) tNil)) (by rfl) gH FH.kp lkH hcdH bH scHeard rfl (Or.inl (by rfl)) (gives_heard mi E2.gL E2.gS E2.gE) TB rfl hTm hu hr (lamS_by (sc := defScope sLTextRight) (by decide +kernel)) (by rfl) (fun _ _ _ _ _ => rfl)
              (fun A outer s H E f' c' hr2 => by exact (pe_callS GT hr2 (by rfl) gT FT.kp bT (fun σ => passAt (takes_of rfl rfl rfl rfl) σ) (pa_cons (pv 0) pa_nil)))) (pa_cons
            (pe_lamcallD (k := k) (x := "a1") (T := Ts T1 T2) (t := fun E => tCallS (spAre K CL) (fun _ => E) (tCons (tVar 0) (tCons (tVar 0) tNil))) (by rfl) gH FH.kp lkH hcdH bH scHeard rfl (Or.inl (by rfl)) (gives_heard mi E2.gL E2.gS E2.gE) TB rfl hTm hu hr (lamSD_by (sc := defScope sLTextRight) (by decide +kernel)) ha1 rfl (fun _ _ _ _ _ _ _ => ⟨_, rfl, rfl⟩)
              (fun A outer s H E f' c' hr2 => by exact (pe_callS GA hr2 (by rfl) gA FA.kp bA (fun σ => passAt (takes_of rfl rfl rfl rfl) σ) (pa_cons (pv 0) (pa_cons (pv 0) pa_nil))))) (pa_cons
            (pe_lamcallD (k := k) (x := "a2") (T := Ts T1 T2) (t := fun E => tCallS (spAre K CL) (fun _ => E) (tCons (tVar 2) (tCons (tVar 0) tNil))) (by rfl) gH FH.kp lkH hcdH bH scHeard rfl (Or.inl (by rfl)) (gives_heard mi E2.gL E2.gS E2.gE) TB rfl hTm hu hr (lamSD_by (sc := defScope sLTextRight) (by decide +kernel)) ha2 rfl (fun _ _ _ _ _ _ _ => ⟨_, rfl, rfl⟩)
              (fun A outer s H E f' c' hr2 => by exact (pe_callS GA hr2 (by rfl) gA FA.kp bA (fun σ => passAt (takes_of rfl rfl rfl rfl) σ) (pa_cons (pv 2) (pa_cons (pv 0) pa_nil))))) pa_nil)))))
          (pss_one (ps_ret (pe_cmpR (op_eqD hr.units) (pv 3) (pe_lst (pa_cons (pe_tup (pa_cons pe_str (pa_cons pe_str pa_nil))) (pa_cons (pe_tup (pa_cons pe_str (pa_cons pe_str pa_nil))) (pa_cons (pe_tup (pa_cons pe_str (pa_cons pe_str pa_nil))) pa_nil)))) (nomark _)))))) pss_nil)
      (pss_one (ps_ret (pe_and (pe_cmpR op_eq (pe_callB (call_reprX hgd hr.units) (by rfl) mrepr (by decide +kernel) (pa_cons (pe_callN0 GT hk (by rfl) gT FT.kp kT passF (pk_cons (pv 0) pk_nil)) pa_nil)) (pe_callB (call_reprX hgd hr.units) (by rfl) mrepr (by decide +kernel) (pa_cons (pv 1) pa_nil)) (nomark _))
          (pe_one (pe_cmpR op_eq (pe_call GX hk (by rfl) gX FX.kp bX .nil passF (pa_cons (pe_ix ix_tup (pv 1) pe_int (fun _ _ => rfl)) (pa_cons (pe_ix ix_tup (pv 1) pe_int (fun _ _ => rfl)) pa_nil))) (pv 0) (nomark _)))))))), ?_⟩
    refine asg_go (call_go (Evl.ea_cons (Evl.ev_var rfl) Evl.ea_nil) fun H0 e0 => ⟨x, r, rfl, hx.ex e0, fun L hL A H1 e1 hA => ?_, fun hN H1 e1 => ?_⟩)
    · have hx1 := hx.ex (e0.trans e1)
      refine Evl.q_when (b := false) (et_neStr (z := if r.isSome then "True" else "False") (ev_reprT (ev_isLabelK rfl hx1)) (ev_reprT (Evl.ev_is (ev_notN (Evl.ev_var (v := .ref A) rfl)) (by rw [hL] <;> rfl)))) (fun z => nomatch z) fun _ H2 e2 => ?_
      refine Evl.q_when (b := false) (Evl.et_is (Evl.et_test (b := false) (Evl.ev_op (x := .ref A) (y := .non) (z := .bl false) (Evl.ev_var rfl) Evl.ev_c rv_isN)) rfl) (fun z => nomatch z) fun _ H3 e3 => ?_
      obtain ⟨its, rfl, hI, hR⟩ : ∃ its, x = .str (txt its) ∧ Its its ∧ RdP its L := by
        subst hL
        cases hx with
        | yes hI hR => exact ⟨_, rfl, hI, hR⟩
      have hA3 := hA.ex (e2.trans e3)
      obtain ⟨S, N, a1, a2, a3⟩ := id hA3
      refine Evl.s_ret (Evl.ev_is (Evl.ev_andV (a := true) (b := true) (Evl.ev_is (Evl.ev_op (ev_reprL hR.1 fun G1 f1 Q' q' => ⟨.str (txt its), rfl, rfl, rfl, .str (txt its), some L, rfl, .yes hI hR, fun L' hL' A' H5 e5 hA' => by cases hL'; exact q' A' H5 e5 hA', fun z => nomatch z⟩) (ev_reprL hR.1 fun G1 f1 Q' q' => ⟨.ref A, rfl, q' A G1 (Evl.Ex.refl _) (hA3.ex f1)⟩) (Evl.rv_eq rfl)) (by rw [decide_eq_true rfl]))
        fun _ => Evl.ev_is (Evl.ev_op (x := .str (txt its)) (y := .str (txt its)) (Evl.ev_is (Evl.ev_call (Evl.ea_cons (ev_at (j := 0) (Evl.ev_var rfl) a1 rfl) (Evl.ea_cons (ev_at (j := 1) (Evl.ev_var rfl) a1 rfl) Evl.ea_nil)) (spv_labelText hR.1 (val_seat a2) (dv_near a3 (by have := hR.1.near.len; omega) fun q hq => (hR.1.near.each q hq).2.1))) (by rw [hR.2])) (Evl.ev_var rfl) (Evl.rv_eq rfl)) (by rw [decide_eq_true rfl])) rfl) fun H4 e4 => ?_
      have e04 := (e0.trans e1).trans ((e2.trans e3).trans e4)
      exact q H4 (ExtN.of e04) (hTabs.ext e04)
    · subst hN
      have hx1 := hx.ex (e0.trans e1)
      refine Evl.q_when (b := false) (et_neStr (z := if (none : Option Lb).isSome then "True" else "False") (ev_reprT (ev_isLabelK rfl hx1)) (ev_reprT (Evl.ev_is (ev_notN (Evl.ev_var (v := .non) rfl)) rfl))) (fun z => nomatch z) fun _ H2 e2 => ?_
      refine Evl.q_when (b := true) (Evl.et_is (Evl.et_test (b := true) (Evl.ev_op (x := .non) (y := .non) (z := .bl true) (Evl.ev_var rfl) Evl.ev_c rv_isN)) rfl) (fun _ H3 e3 => ?_) (fun z => nomatch z)
      have e03 := (e0.trans e1).trans (e2.trans e3)
      obtain ⟨ps, hT, _, _⟩ := (hTabs.ext e03) (T1, nmT) hTm
      have LV : Live (Ts T1 T2) (strip T1 H3) H3 := ⟨strip_ex, strip_nt, hTabs.ext e03⟩
      have hxB : TxV K (strip T1 H3) x none := (hx.ex e03).strip hT
      have back : ∀ {H4 : Hp}, Evl.Ex (strip T1 H3) H4 → ExtN H H4 := fun e => (ExtN.of e03).trans (strip_extN hT e)
      clear hx hx1 hT
      generalize strip T1 H3 = B at LV hxB back
      refine asg_go ?_
      show tSeq (tAsg (tLst (tCons (tLam (Ts T1 T2) (THeardS K CE (trH K CL CS)) fun E => tCallS (spTold K CL) (fun _ => E) (tCons (tVar 0) tNil)) (tCons (tLam (Ts T1 T2) (THeardS K CE (trH K CL CS)) fun E => tCallS (spAre K CL) (fun _ => E) (tCons (tVar 0) (tCons (tVar 0) tNil))) (tCons (tLam (Ts T1 T2) (THeardS K CE (trH K CL CS)) fun E => tCallS (spAre K CL) (fun _ => E) (tCons (tVar 2) (tCons (tVar 0) tNil))) tNil)))) (gName 3)) _ _ _ _
      refine asg_lst ?_
      refine lam_raise (fs := [(("part" : Str), .str "label")]) (vs := [.str "label", .str "label"]) LV E2.xL (fun G1 E Q' ex k => ⟨x, rfl, x, none, rfl, hxB.ex ex, (fun L z => nomatch z), fun _ H2 d e2 hd => k H2 d e2 hd⟩) (fun G a d σ' D' h1 h2 h3 h4 k => rd_L E2 G a d σ' D' h1 h2 h4 k) fun p1 H6 L6 h6 f6 => ?_
      have x6 := Evl.Ex.new (H := B) (o := .tup [.str "label", .str "label"]) f6
      refine lam_raise (fs := [(("part" : Str), .str "one")]) (vs := [.str "label", .str "one"]) L6 E2.xL (fun G1 E Q' ex k => ⟨x, rfl, x, rfl, x, x, none, none, rfl, (hxB.ex x6).ex ex, (hxB.ex x6).ex ex, .inl rfl, fun _ H2 d e2 hd => k H2 d e2 hd, fun z => nomatch z⟩) (fun G a d σ' D' h1 h2 h3 h4 k => rd_L E2 G a d σ' D' h1 h2 h4 k) fun p2 H7 L7 h7 f7 => ?_
      have x7 := x6.trans (Evl.Ex.new (o := .tup [.str "label", .str "one"]) f7)
      refine lam_raise (fs := [(("part" : Str), .str "other")]) (vs := [.str "label", .str "other"]) L7 E2.xL (fun G1 E Q' ex k => ⟨.str "0 0 0 / 0 000000000", rfl, x, rfl, .str "0 0 0 / 0 000000000", x, some L0, none, rfl, L0_tx, (hxB.ex x7).ex ex, .inr rfl, (fun z => nomatch z), fun _ _ H2 d e2 hd => k H2 d e2 hd⟩) (fun G a d σ' D' h1 h2 h3 h4 k => rd_L E2 G a d σ' D' h1 h2 h4 k) fun p3 H8 L8 h8 f8 => ?_
      have x8 := Evl.Ex.new (o := .tup [.str "label", .str "other"]) f8
      refine ⟨by show 3 ≤ sizeLine; decide, fun h1 n1 => ?_⟩
      have eL := L8.ex
      have y1 := eL _ _ (x8 _ _ (Evl.Ex.new f7 _ _ upd_same))
      have y2 := eL _ _ (x8 _ _ upd_same)
      have y3 := eL _ _ upd_same
      have eN1 := Evl.Ex.new (o := .lst [.ref p1, .ref p2, .ref p3]) n1
      have z1 := eN1 _ _ y1
      have z2 := eN1 _ _ y2
      have z3 := eN1 _ _ y3
      have eB : Evl.Ex B (upd H8 h1 (.lst [.ref p1, .ref p2, .ref p3])) := (x7.trans x8).trans (eL.trans eN1)
      have tB : Tabs (Ts T1 T2) (upd H8 h1 (.lst [.ref p1, .ref p2, .ref p3])) := L8.tabs.ext eN1
      have zh : upd H8 h1 (.lst [.ref p1, .ref p2, .ref p3]) h1 = some (.lst [.ref p1, .ref p2, .ref p3]) := upd_same
      generalize upd H8 h1 (.lst [.ref p1, .ref p2, .ref p3]) = H9 at z1 z2 z3 eB tB zh
      dsimp only [gName]
      refine ret_go (op_go ⟨.ref h1, rfl, ?_⟩)
      refine cons_u eu_two fun d1 H14 _ e14 k1 => cons_u eu_two fun d2 H15 _ e15 k2 => cons_u eu_two fun d3 H16 _ e16 k3 => ⟨by show 3 ≤ sizeLine; decide, fun dl nl => ?_⟩
      have eN := Evl.Ex.new (H := H16) (o := .lst [.ref d1, .ref d2, .ref d3]) nl
      have eT := ((e14.trans e15).trans e16).trans eN
      refine ⟨.list [.tuple [.str "label", .str "label"], .tuple [.str "label", .str "one"], .tuple [.str "label", .str "other"]], .list [.tuple [.str "label", .str "label"], .tuple [.str "label", .str "one"], .tuple [.str "label", .str "other"]], ?_, ?_, by decide +kernel, by decide +kernel, ?_⟩
      · exact .lst (Evl.sq_of (eT _ _ zh)) (.cons (.tup (Evl.st_of (eT _ _ z1)) (.cons (.str _) (.cons (.str _) .nil))) (.cons (.tup (Evl.st_of (eT _ _ z2)) (.cons (.str _) (.cons (.str _) .nil))) (.cons (.tup (Evl.st_of (eT _ _ z3)) (.cons (.str _) (.cons (.str _) .nil))) .nil)))
      · exact .lst (Evl.sq_of upd_same) (.cons (.tup (Evl.st_of (eN _ _ (e16 _ _ (e15 _ _ k1)))) (.cons (.str _) (.cons (.str _) .nil))) (.cons (.tup (Evl.st_of (eN _ _ (e16 _ _ k2))) (.cons (.str _) (.cons (.str _) .nil))) (.cons (.tup (Evl.st_of (eN _ _ k3)) (.cons (.str _) (.cons (.str _) .nil))) .nil)))
      · rw [show PyData.eqv (.list [.tuple [.str "label", .str "label"], .tuple [.str "label", .str "one"], .tuple [.str "label", .str "other"]]) (.list [.tuple [.str "label", .str "label"], .tuple [.str "label", .str "one"], .tuple [.str "label", .str "other"]]) = true from by decide +kernel]
        exact q _ (back (eB.trans eT)) (tB.ext eT)
end
end P60
end S_Kt
section S_Wx
namespace Hk
open PySem PySem.Spec PyProof.Rows L2 LamX Tl
section
variable {prog : Program} {w : World} {A : Around} {E : Value → Shared → Prop} {s : Shared}
theorem applied_rev {sl : Addr} {vs : Value} {n : Nat} {Q : Int × Int × Nat → Shared → Prop} (hs : s.heap.IsSliceOf sl .none .none vs) (ps : IsPart vs (some (-1)))
    (h : Q ((n : Int) - 1, -1, n) s) : wpAny (model prog w) A (Builtin.Slice.sliceApplied (.ref sl) (pure (n : Int))) Q E s := by
  obtain ⟨os, hos, hcs, hds⟩ := id hs
  unfold Builtin.Slice.sliceApplied Builtin.Slice.sliceFields
  refine wpAny_bind (wpAny_bind (wpAny_field hos hds (x := .none) rfl (wpAny_bind (wpAny_field hos hds (x := .none) rfl (wpAny_bind (wpAny_field hos hds (x := vs) rfl (wpAny_pure ?_)))))))
  refine wpAny_bind (HT.slicePart_ ps ?_)
  show wpAny _ _ (if ((-1 : Int) == 0) = true then _ else _) _ _ s
  rw [if_neg (by decide)]
  refine wpAny_bind (HT.slicePart_ .none (wpAny_bind (HT.slicePart_ .none (wpAny_bind (wpAny_pure ?_)))))
  show wpAny _ _ (pure ((n : Int) - 1, (-1 : Int), Builtin.Slice.slicePlaces ((n : Int) - 1) (-1) (-1))) _ _ s
  have e : Builtin.Slice.slicePlaces ((n : Int) - 1) (-1) (-1) = n := by
    unfold Builtin.Slice.slicePlaces
    rw [if_neg (by decide)]
    by_cases z : n = 0
    · subst z; decide
    · rw [if_pos (by omega)]
      have : ((n : Int) - 1 - -1 - 1) / (- -1) = (n : Int) - 1 := by
        rw [Int.neg_neg, Int.ediv_one]
        omega
      rw [this]
      omega
  rw [e]
  exact wpAny_pure h
theorem fm_congr {α β : Type} {f g : α → Option β} : ∀ {l : List α}, (∀ x ∈ l, f x = g x) → l.filterMap f = l.filterMap g
  | [], _ => rfl
  | a :: r, h => by rw [List.filterMap_cons, List.filterMap_cons, h a List.mem_cons_self, fm_congr fun x hx => h x (List.mem_cons_of_mem _ hx)]
theorem pick_rev (xs : Array Value) : ((List.range xs.size).filterMap fun (m : Nat) => xs[((xs.size : Int) - 1 + (m : Int) * (-1)).toNat]?).toArray = xs.toList.reverse.toArray := by
  have h := HT.pick_gen xs.reverse 0 xs.size
  have e : ((List.range xs.size).filterMap fun (m : Nat) => xs[((xs.size : Int) - 1 + (m : Int) * (-1)).toNat]?) = (List.range xs.size).filterMap fun (m : Nat) => xs.reverse[(((0 : Nat) : Int) + (m : Int) * 1).toNat]? := by
    refine fm_congr fun m hm => ?_
    have hm := List.mem_range.mp hm
    have h1 : ((xs.size : Int) - 1 + (m : Int) * (-1)).toNat = xs.size - 1 - m := by omega
    have h2 : (((0 : Nat) : Int) + (m : Int) * 1).toNat = m := by omega
    rw [h1, h2, Array.getElem?_reverse hm]
  rw [e, h, List.drop_zero, List.take_of_length_le (by simp)]
  simp
theorem getItem_tuple_rev {t sl : Addr} {items : Array Value} {vs : Value} {Q : Value → Shared → Prop} (ht : IsTup s.heap t items) (hs : s.heap.IsSliceOf sl .none .none vs) (ps : IsPart vs (some (-1)))
    (h : Q (.ref s.heap.objs.size) { s with heap := s.heap.push { cls := .type "tuple", data := .seq items.toList.reverse.toArray } })
    (hsz : items.size ≤ sizeLine) : wpAny (model prog w) A (getItem (.ref t) (.ref sl)) Q E s := by
  have htake : sizeOk (.seq items.toList.reverse.toArray) := by
    show items.toList.reverse.toArray.size ≤ sizeLine
    rw [List.size_toArray, List.length_reverse, Array.length_toList]
    exact hsz
  obtain ⟨os, hos, hcs, hds⟩ := id hs
  have hTs : s.TypeIs (.ref sl) "slice" := ⟨os, hos, hcs⟩
  unfold getItem
  try with_reducible refine wpAny_holding ?_
  first | refine wpAny_bind (wpAny_pure ?_) | skip
  refine wpAny_bind (wpAny_sequenceKey ht.typeIs (by decide) ?_)
  refine wpAny_bind (wpAny_callSpecial?_slot (name := Str.ofString "__getitem__") ht.typeIs PyProof.Rows.slot_tuple_getitem
    (wpAny_call_entry PyProof.Rows.slot_tuple_getitem ht.typeIs PyProof.Rows.entry_tuple_getitem ?_ (PyProof.Rows.args_tuple_getitem _ _)))
  show wpAny _ _ (Builtin.Tuple.tupleItemsOf (.ref t) >>= _) _ _ s
  refine wpAny_bind (tupleItemsOf_ ht ?_)
  refine wpAny_bind (wpAny_typeOf hTs ?_)
  rw [if_pos (by decide)]
  refine wpAny_bind (applied_rev hs ps ?_)
  have hno : ¬ ((((items.size : Int) - 1) == 0 && (-1 : Int) == 1 && items.size == items.size) = true) := by
    rw [show ((-1 : Int) == 1) = false from rfl, Bool.and_false, Bool.false_and]
    exact Bool.false_ne_true
  show wpAny _ _ (if ((((items.size : Int) - 1) == 0 && (-1 : Int) == 1 && items.size == items.size) = true) then _ else _) _ _ s
  rw [if_neg hno, pick_rev]
  first
    | exact wpAny_bind (m := Builtin.Tuple.tupleExact _) (wpAny_newObj_type (wpAny_pure ⟨_, rfl, wpAny_pure h⟩) htake)
    | exact wpAny_bind (m := Builtin.Tuple.tupleExact _) (wpAny_newObj_type (wpAny_bind (wpAny_pure (wpAny_pure ⟨_, rfl, wpAny_pure h⟩))) htake)
    | exact wpAny_bind (wpAny_bind (m := Builtin.Tuple.tupleExact _) (wpAny_newObj_type (wpAny_pure (wpAny_pure ⟨_, rfl, wpAny_pure h⟩)) htake))
    | exact wpAny_bind (wpAny_bind (m := Builtin.Tuple.tupleExact _) (wpAny_newObj_type (wpAny_pure ⟨_, rfl, wpAny_pure h⟩) htake))
end
/-- a tuple backward -/
def tRevT (K : PySem.W.Frag) (te : TE) : TE := fun σ H Q => te σ H fun x H1 => ∃ a xs, x = .ref a ∧ SqT K H1 a xs ∧ ∀ p, H1 p = none → Q (.ref p) (upd H1 p (.tup xs.reverse))
theorem pe_revT {X : Cx} {e : Expr} {te : TE} {k : Nat} {p1 p2 p3 pos : Pos} (he : PE X e te) : PE X (.Subscript e (.Slice none none (some (.UnaryOp .USub (.Constant (.int 1) k p1) p2)) p3) pos) (tRevT X.K te) := by
  refine ⟨fun pins s σ H Q I h => ?_⟩
  refine Subscript_ (thn (he.run pins s σ H _ I h) fun v s1 ⟨x, H1, I1, r1, q1⟩ => ?_)
  obtain ⟨a, xs, ex, hx, q⟩ := q1
  subst ex
  cases r1
  have hst : PO X (some (.UnaryOp .USub (.Constant (.int 1) k p1) p2)) (tPart (tUn (rU fun i => .int (-i)) (tC (.int 1)))) := po_some (pe_un un_neg pe_int)
  refine wpAny_Slice (thn (po_none.run pins s1 σ H1 (fun o H2 => o = none ∧ H2 = H1) I1 ⟨rfl, rfl⟩) fun vl s2 ⟨l, H2, I2, pl, el, e2⟩ => ?_)
  subst el e2
  refine thn (po_none.run pins s2 σ H2 (fun o H3 => o = none ∧ H3 = H2) I2 ⟨rfl, rfl⟩) fun vu s3 ⟨u, H3, I3, pu, eu, e3⟩ => ?_
  subst eu e3
  refine thn (hst.run pins s3 σ H3 (fun o H4 => o = some (-1) ∧ H4 = H3) I3 ⟨1, rfl, -1, rfl, rfl, rfl⟩) fun vs s4 ⟨o, H4, I4, ps, eo, e4⟩ => ?_
  subst eo e4
  have I5 : Inv X pins σ H4 { s4 with heap := s4.heap.push { cls := .type "slice", data := .fields #[vl, vu, vs] } } := I4.kept (t' := s4.toks) fun b ob q => Heap.get?_push_of_some _ q
  obtain ⟨its, r, ht, hz⟩ := I5.tuple hx
  have hlen := r.length
  cases pl
  cases pu
  show wpAny (model X.prog X.w) X.A (subscriptTail e (.Slice none none (some (.UnaryOp .USub (.Constant (.int 1) k p1) p2)) p3) (.ref a) (.ref s4.heap.objs.size)) (EP X pins σ Q) X.xe { s4 with heap := s4.heap.push { cls := .type "slice", data := .fields #[.none, .none, vs] } }
  refine tail_any (ops := [.ref a, .ref s4.heap.objs.size]) ht.typeIs (PyProof.Rows.slot_tuple_getitem.lookup) ?_ (by with_unfolding_all rfl)
  refine getItem_tuple_rev ht (Heap.IsSliceOf.new _ .none .none vs) ps ?_ (by rw [List.size_toArray]; omega)
  refine ⟨.ref _, _, I5.laid (t' := s4.toks) (o := .tup xs.reverse) (fun b ob q => Heap.get?_push_of_some _ q) (Nat.le_refl _) ?_, rfl, q _ (I5.hok.fresh (Nat.le_refl _))⟩
  exact ⟨by rw [List.length_reverse]; exact hz, _, r.reverse, IsTup.new _ _⟩
end Hk
end S_Wx
section S_Ku
namespace P60
open PySem PySem.Spec PyProof.Rows L2 Tl Hk LamX
/-- the tables and the drawer stand -/
structure Od (T : List (Addr × Str)) (t c : Addr) (n : Nat) (H : Hp) : Prop where
  tabs : Tabs T H
  tub : Tub H t c n
theorem Od.ex {T : List (Addr × Str)} {t c : Addr} {n : Nat} {H H1 : Hp} (o : Od T t c n H) (e : Evl.Ex H H1) : Od T t c n H1 := ⟨o.tabs.ext e, o.tub.ex e⟩
theorem Od.kept {T : List (Addr × Str)} {t c : Addr} {n m : Nat} {H H1 : Hp} (o : Od T t c n H) (k : Kept t H H1) (T1 : Tub H1 t c m) : Od T t c m H1 := ⟨fun p hp => by
  obtain ⟨cs, turn, rest, ht, _⟩ := o.tub
  obtain ⟨ps, h1, h2, h3⟩ := o.tabs p hp
  refine ⟨ps, k _ _ (fun z => by rw [z, ht] at h1; cases h1) h1, h2, fun pos cv hc => ?_⟩
  obtain ⟨c', e1, e2⟩ := h3 pos cv hc
  exact ⟨c', e1, k _ _ (fun z => by rw [z, ht] at e2; cases e2) e2⟩, T1⟩
theorem sx_kept {t : Addr} {H H1 : Hp} (k : Kept t H H1) : Evl.Ex (strip t H) (strip t H1) := fun a o h => by
  obtain ⟨h1, h2, h3⟩ := strip_le h
  exact strip_at (k a o h1 h2) h1 h3
theorem sx_ex {t : Addr} {H H1 : Hp} (e : Evl.Ex H H1) : Evl.Ex (strip t H) (strip t H1) := sx_kept (kept_ex e)
/-- what is told of a value once made, by what stands but for the drawer and the tables -/
def EvW (T : List (Addr × Str)) (t c : Addr) (n : Nat) (te : TE) (σ : L2.St) (H0 : Hp) (W : Hp → V → Prop) : Prop := ∀ (H : Hp) (Q : VK), Evl.Ex (strip t H0) (strip t H) → Od T t c n H →
  (∀ v H1, Evl.Ex (strip t H) (strip t H1) → Od T t c n H1 → W (strip t H1) v → Q v H1) → te σ H Q
def EaW (T : List (Addr × Str)) (t c : Addr) (n : Nat) (ta : TA) (σ : L2.St) (H0 : Hp) (W : Hp → List V → Prop) : Prop := ∀ (H : Hp) (Q : List V → Hp → Prop), Evl.Ex (strip t H0) (strip t H) → Od T t c n H →
  (∀ vs H1, Evl.Ex (strip t H) (strip t H1) → Od T t c n H1 → W (strip t H1) vs → Q vs H1) → ta σ H Q
def Mono {α : Type} (W : Hp → α → Prop) : Prop := ∀ B B1 v, Evl.Ex B B1 → W B v → W B1 v
section
variable {T : List (Addr × Str)} {t c : Addr} {n : Nat} {σ : L2.St} {H0 : Hp} {ta tb te : TE} {tA : TA} {W W1 W2 : Hp → V → Prop} {WA WB : Hp → List V → Prop} {K : PySem.W.Frag}
theorem ew_c {v : V} (h : ∀ H, Evl.Ex (strip t H0) (strip t H) → W (strip t H) v) : EvW T t c n (tC v) σ H0 W := fun H Q e o k => k v H (Evl.Ex.refl _) o (h H e)
theorem ew_v {v : V} (h : ∀ H, Evl.Ex (strip t H0) (strip t H) → Od T t c n H → Evl.Ev te σ H v) (hw : ∀ H, Evl.Ex (strip t H0) (strip t H) → W (strip t H) v) : EvW T t c n te σ H0 W := fun H Q e o k =>
  h H e o H (Evl.Ex.refl _) _ fun H1 e1 => k v H1 (sx_ex e1) (o.ex e1) (hw H1 (e.trans (sx_ex e1)))
theorem new_at {p : Addr} {H H1 : Hp} {o : HO} (O : Od T t c n H) (hp : H p = none) (h : H1 p = some o) (ho : ∀ ps, o ≠ .tbl ps) : strip t H1 p = some o := strip_at h (O.tub.ne hp).1 ho
theorem ew_u {xs : List V} (h : ∀ H, Evl.Ex (strip t H0) (strip t H) → Od T t c n H → Evl.EvU te σ H xs) (hw : ∀ H p, Evl.Ex (strip t H0) (strip t H) → strip t H p = some (.tup xs) → W (strip t H) (.ref p)) : EvW T t c n te σ H0 W := fun H Q e o k =>
  h H e o H (Evl.Ex.refl _) _ fun p H1 hp e1 h1 => k _ H1 (sx_ex e1) (o.ex e1) (hw H1 p (e.trans (sx_ex e1)) (new_at o hp h1 fun ps z => nomatch z))
theorem ew_l {xs : List V} (h : ∀ H, Evl.Ex (strip t H0) (strip t H) → Od T t c n H → Evl.EvL te σ H xs) (hw : ∀ H p, Evl.Ex (strip t H0) (strip t H) → strip t H p = some (.lst xs) → W (strip t H) (.ref p)) : EvW T t c n te σ H0 W := fun H Q e o k =>
  h H e o H (Evl.Ex.refl _) _ fun p H1 hp e1 h1 => k _ H1 (sx_ex e1) (o.ex e1) (hw H1 p (e.trans (sx_ex e1)) (new_at o hp h1 fun ps z => nomatch z))
theorem ew_mono (h : EvW T t c n te σ H0 W1) (m : ∀ B v, W1 B v → W B v) : EvW T t c n te σ H0 W := fun H Q e o k => h H Q e o fun v H1 e1 o1 w => k v H1 e1 o1 (m _ _ w)
theorem ea_nilW (h : ∀ B, WA B []) : EaW T t c n tNil σ H0 WA := fun H Q e o k => k [] H (Evl.Ex.refl _) o (h _)
theorem ea_consW (h : EvW T t c n te σ H0 W1) (hr : EaW T t c n tA σ H0 WB) (m : Mono W1) (j : ∀ B v vs, W1 B v → WB B vs → WA B (v :: vs)) : EaW T t c n (tCons te tA) σ H0 WA := fun H Q e o k =>
  h H _ e o fun v H1 e1 o1 w1 => hr H1 _ (e.trans e1) o1 fun vs H2 e2 o2 w2 => k (v :: vs) H2 (e1.trans e2) o2 (j _ _ _ (m _ _ _ e2 w1) w2)
theorem ew_lst (h : EaW T t c n tA σ H0 WA) (m : Mono WA) (hl : ∀ B vs, WA B vs → vs.length ≤ 1000) (hw : ∀ B p vs, WA B vs → B p = some (.lst vs) → W B (.ref p)) : EvW T t c n (tLst tA) σ H0 W := fun H Q e o k =>
  h H _ e o fun vs H1 e1 o1 w1 => ⟨by rw [sizeLine_eq]; have := hl _ _ w1; omega, fun p hp => by
    have eN := Evl.Ex.new (o := .lst vs) hp
    exact k _ _ (e1.trans (sx_ex eN)) (o1.ex eN) (hw _ p vs (m _ _ _ (sx_ex eN) w1) (new_at o1 hp upd_same fun ps z => nomatch z))⟩
theorem ew_tup (h : EaW T t c n tA σ H0 WA) (m : Mono WA) (hl : ∀ B vs, WA B vs → vs.length ≤ 1000) (hw : ∀ B p vs, WA B vs → B p = some (.tup vs) → W B (.ref p)) : EvW T t c n (tTup tA) σ H0 W := fun H Q e o k =>
  h H _ e o fun vs H1 e1 o1 w1 => ⟨by rw [sizeLine_eq]; have := hl _ _ w1; omega, fun p hp => by
    have eN := Evl.Ex.new (o := .tup vs) hp
    exact k _ _ (e1.trans (sx_ex eN)) (o1.ex eN) (hw _ p vs (m _ _ _ (sx_ex eN) w1) (new_at o1 hp upd_same fun ps z => nomatch z))⟩
/-- all of a number of values -/
def AllW (m : Nat) (W : Hp → V → Prop) : Hp → List V → Prop := fun B vs => vs.length = m ∧ ∀ v ∈ vs, W B v
theorem AllW.mono {m : Nat} (h : Mono W) : Mono (AllW m W) := fun B B1 vs e w => ⟨w.1, fun v hv => h _ _ _ e (w.2 v hv)⟩
theorem all_nil : EaW T t c n tNil σ H0 (AllW 0 W) := ea_nilW fun B => ⟨rfl, fun v hv => nomatch hv⟩
theorem all_cons {m : Nat} (hm : Mono W) (h : EvW T t c n te σ H0 W) (hr : EaW T t c n tA σ H0 (AllW m W)) : EaW T t c n (tCons te tA) σ H0 (AllW (m + 1) W) := ea_consW h hr hm fun B v vs w1 w2 => ⟨by rw [List.length_cons, w2.1], fun u hu => by
  rcases List.mem_cons.mp hu with rfl | hu
  · exact w1
  · exact w2.2 u hu⟩
/-- a list of values that are all so -/
def LstW (m : Nat) (W : Hp → V → Prop) : Hp → V → Prop := fun B v => ∃ p vs, v = .ref p ∧ B p = some (.lst vs) ∧ AllW m W B vs
theorem LstW.mono {m : Nat} (h : Mono W) : Mono (LstW m W) := fun B B1 v e ⟨p, vs, a, b, w⟩ => ⟨p, vs, a, e _ _ b, AllW.mono h _ _ _ e w⟩
theorem ew_all {m : Nat} (hm : Mono W) (hl : m ≤ 1000) (h : EaW T t c n tA σ H0 (AllW m W)) : EvW T t c n (tLst tA) σ H0 (LstW m W) := ew_lst h (AllW.mono hm) (fun B vs w => by rw [w.1]; exact hl) fun B p vs w hp => ⟨p, vs, rfl, hp, w⟩
theorem ew_cat {m k : Nat} (hm : Mono W) (hl : m + k ≤ 1000) (ha : EvW T t c n ta σ H0 (LstW m W)) (hb : EvW T t c n tb σ H0 (LstW k W)) : EvW T t c n (tOp rCat ta tb) σ H0 (LstW (m + k) W) := fun H Q e o q =>
  ha H _ e o fun x H1 e1 o1 w1 => hb H1 _ (e.trans e1) o1 fun y H2 e2 o2 w2 => by
    obtain ⟨p, vs, rfl, hp, hv, hw⟩ := LstW.mono hm _ _ _ e2 w1
    obtain ⟨r, us, rfl, hr, hu, hz⟩ := w2
    refine ⟨p, r, vs, us, rfl, rfl, strip_ex _ _ hp, strip_ex _ _ hr, by rw [sizeLine_eq]; omega, fun a ha => ?_⟩
    have eN := Evl.Ex.new (o := .lst (vs ++ us)) ha
    refine q _ _ (e1.trans (e2.trans (sx_ex eN))) (o2.ex eN) ⟨a, vs ++ us, rfl, new_at o2 ha upd_same (fun ps z => nomatch z), by rw [List.length_append, hv, hu], fun v hv' => hm _ _ _ (sx_ex eN) ?_⟩
    rcases List.mem_append.mp hv' with z | z
    · exact hw v z
    · exact hz v z
/-! ### rows of pieces -/
theorem RowsP.app {H : Hp} {rs ss : List Addr} {n1 n2 : List (Nat × List Bool)} (h1 : RowsP H rs n1) (h2 : RowsP H ss n2) : RowsP H (rs ++ ss) (n1 ++ n2) := by
  refine ⟨by rw [List.length_append, List.length_append, h1.1, h2.1], fun i r q a b => ?_⟩
  rcases Nat.lt_or_ge i rs.length with z | z
  · rw [List.getElem?_append_left z] at a
    rw [List.getElem?_append_left (by have := h1.1; omega)] at b
    exact h1.2 i r q a b
  · rw [List.getElem?_append_right z] at a
    rw [List.getElem?_append_right (by have := h1.1; omega), ← h1.1] at b
    exact h2.2 _ r q a b
theorem RowsP.rev {H : Hp} {rs : List Addr} {n1 : List (Nat × List Bool)} (h : RowsP H rs n1) : RowsP H rs.reverse n1.reverse := by
  refine ⟨by rw [List.length_reverse, List.length_reverse, h.1], fun i r q a b => ?_⟩
  have hi : i < rs.length := by
    have := (List.getElem?_eq_some_iff.mp a).1
    rwa [List.length_reverse] at this
  rw [List.getElem?_reverse hi] at a
  rw [List.getElem?_reverse (by have := h.1; omega), ← h.1] at b
  exact h.2 _ r q a b
theorem RowsP.take {H : Hp} {rs : List Addr} {n1 : List (Nat × List Bool)} (h : RowsP H rs n1) (k : Nat) : RowsP H (rs.take k) (n1.take k) := by
  refine ⟨by rw [List.length_take, List.length_take, h.1], fun i r q a b => ?_⟩
  rw [List.getElem?_take] at a b
  split at a
  · rename_i z
    rw [if_pos z] at b
    exact h.2 i r q a b
  · cases a
/-- a tuple of pieces -/
def WNear (near : List (Nat × List Bool)) : Hp → V → Prop := fun B v => ∃ p, v = .ref p ∧ NearAt B p near
theorem WNear.mono {near : List (Nat × List Bool)} : Mono (WNear near) := fun B B1 v e ⟨p, a, w⟩ => ⟨p, a, w.ex e⟩
theorem rows_refs {H : Hp} {rs : List Addr} {near : List (Nat × List Bool)} (h : RowsP H rs near) : (rs.map V.ref).length = near.length := by rw [List.length_map, h.1]
theorem ew_catN {n1 n2 : List (Nat × List Bool)} (hl : n1.length + n2.length ≤ 1000) (h1 : n1 ≠ []) (h2 : n2 ≠ []) (ha : EvW T t c n ta σ H0 (WNear n1)) (hb : EvW T t c n tb σ H0 (WNear n2)) : EvW T t c n (tOp (rCatA K) ta tb) σ H0 (WNear (n1 ++ n2)) := fun H Q e o q =>
  ha H _ e o fun x H1 e1 o1 w1 => hb H1 _ (e.trans e1) o1 fun y H2 e2 o2 w2 => by
    obtain ⟨p, rfl, rs, hp, hr⟩ := WNear.mono _ _ _ e2 w1
    obtain ⟨p', rfl, ss, hp', hs⟩ := w2
    have l1 := rows_refs hr
    have l2 := rows_refs hs
    have z1 : rs.map V.ref ≠ [] := fun z => h1 (List.length_eq_zero_iff.mp (by rw [← l1, z]; rfl))
    have z2 : ss.map V.ref ≠ [] := fun z => h2 (List.length_eq_zero_iff.mp (by rw [← l2, z]; rfl))
    refine ⟨p, p', rs.map V.ref, ss.map V.ref, rfl, rfl, Evl.st_of (strip_ex _ _ hp), Evl.st_of (strip_ex _ _ hp'), by rw [sizeLine_eq]; omega, fun z => absurd z z1, fun _ z => absurd z z2, fun _ _ a ha => ?_⟩
    have eN := Evl.Ex.new (o := .tup (rs.map V.ref ++ ss.map V.ref)) ha
    refine q _ _ (e1.trans (e2.trans (sx_ex eN))) (o2.ex eN) ⟨a, rfl, rs ++ ss, ?_, (hr.app hs).ex (sx_ex eN)⟩
    rw [List.map_append]
    exact new_at o2 ha upd_same fun ps z => nomatch z
theorem ew_revN {n1 : List (Nat × List Bool)} (ha : EvW T t c n ta σ H0 (WNear n1)) : EvW T t c n (tRevT K ta) σ H0 (WNear n1.reverse) := fun H Q e o q =>
  ha H _ e o fun x H1 e1 o1 w1 => by
    obtain ⟨p, rfl, rs, hp, hr⟩ := w1
    refine ⟨p, rs.map V.ref, rfl, Evl.st_of (strip_ex _ _ hp), fun a ha => ?_⟩
    have eN := Evl.Ex.new (o := .tup (rs.map V.ref).reverse) ha
    refine q _ _ (e1.trans (sx_ex eN)) (o1.ex eN) ⟨a, rfl, rs.reverse, ?_, hr.rev.ex (sx_ex eN)⟩
    rw [List.map_reverse]
    exact new_at o1 ha upd_same fun ps z => nomatch z
theorem ew_takeN {n1 : List (Nat × List Bool)} {k : Nat} (ha : EvW T t c n ta σ H0 (WNear n1)) : EvW T t c n (tSl (rSlA K) ta tNoPart (tPart (tC (.int (k : Int))))) σ H0 (WNear (n1.take k)) := fun H Q e o q =>
  ha H _ e o fun x H1 e1 o1 w1 => by
    obtain ⟨p, rfl, rs, hp, hr⟩ := w1
    refine ⟨(k : Int), rfl, p, rs.map V.ref, rfl, Evl.st_of (strip_ex _ _ hp), fun z => ?_, fun _ a ha => ?_⟩
    · rw [HT.sIx_nat] at z
      have hk : n1.take k = n1 := List.take_of_length_le (by have := rows_refs hr; omega)
      rw [hk] at q
      exact q _ _ e1 o1 ⟨p, rfl, rs, hp, hr⟩
    · rw [cutTo']
      have eN := Evl.Ex.new (o := .tup ((rs.map V.ref).take k)) ha
      refine q _ _ (e1.trans (sx_ex eN)) (o1.ex eN) ⟨a, rfl, rs.take k, ?_, (hr.take k).ex (sx_ex eN)⟩
      rw [List.map_take]
      exact new_at o1 ha upd_same fun ps z => nomatch z
/-- (piece,) -/
theorem ew_oneN {q : Nat × List Bool} (h : ∀ H, Evl.Ex (strip t H0) (strip t H) → Od T t c n H → Evl.EvU te σ H [.int (q.1 : Int), .str (sS q.2)]) : EvW T t c n (tTup (tCons te tNil)) σ H0 (WNear [q]) := fun H Q e o k =>
  h H e o H (Evl.Ex.refl _) _ fun p H1 hp e1 h1 => ⟨by show 1 ≤ sizeLine; decide, fun a ha => by
    have eN := Evl.Ex.new (o := .tup [.ref p]) ha
    have o1 := o.ex e1
    refine k _ _ (sx_ex (e1.trans eN)) (o1.ex eN) ⟨a, rfl, [p], new_at o1 ha upd_same (fun ps z => nomatch z), rfl, fun i r q' x y => ?_⟩
    match i with
    | 0 =>
      cases x
      cases y
      exact sx_ex eN _ _ (new_at o hp h1 fun ps z => nomatch z)
    | i + 1 => cases x⟩
theorem ew_twice {q : Nat × List Bool} (h : EvW T t c n te σ H0 (WNear [q])) : EvW T t c n (tOp (rRepT K) te (tC (.int 2))) σ H0 (WNear [q, q]) := fun H Q e o k =>
  h H _ e o fun x H1 e1 o1 w1 => by
    obtain ⟨p, rfl, rs, hp, hr⟩ := w1
    obtain ⟨r, rfl⟩ : ∃ r, rs = [r] := by
      match rs, hr.1 with
      | [r], _ => exact ⟨r, rfl⟩
    refine ⟨p, 2, [.ref r], rfl, rfl, Evl.st_of (strip_ex _ _ hp), (fun z => nomatch z), by decide, by decide, by show 1 ≤ 1000; decide, fun a ha => ?_⟩
    have eN := Evl.Ex.new (o := .tup [.ref r, .ref r]) ha
    exact k _ _ (e1.trans (sx_ex eN)) (o1.ex eN) ⟨a, rfl, [r, r], new_at o1 ha upd_same (fun ps z => nomatch z), (hr.app hr).ex (sx_ex eN)⟩
end
end P60
end S_Ku
section S_Kv
namespace P60
open PySem PySem.Spec PyProof.Rows L2 Tl Hk LamX
/-- a value that is no seat | no row of pieces around a seat -/
def NoSeat (K : PySem.W.Frag) (B : Hp) (v : V) : Prop := ∃ o, ValR K B v o ∧ ¬SmallP o
def BadV (K : PySem.W.Frag) (p l n : Nat) (B : Hp) (v : V) : Prop := ∃ ds, DV K B v ds ∧ ¬NearV p l n ds
theorem NoSeat.mono {K : PySem.W.Frag} : Mono (NoSeat K) := fun B B1 v e ⟨o, a, b⟩ => ⟨o, a.ex e, b⟩
theorem BadV.mono {K : PySem.W.Frag} {p l n : Nat} : Mono (BadV K p l n) := fun B B1 v e ⟨o, a, b⟩ => ⟨o, a.ex e, b⟩
section
variable {K : PySem.W.Frag} {B : Hp} {p l n : Nat}
theorem no_seat {v : V} {s : String} (h : Ty7 K B v s) (h1 : s ≠ "list") (h2 : s ≠ "tuple") : NoSeat K B v := ⟨none, .no h h1 h2, fun ⟨_, _, _, e, _⟩ => nomatch e⟩
theorem no_tup {a : Addr} {xs : List V} (h : B a = some (.tup xs)) (hl : xs.length ≤ 4000) (hi : ∀ v ∈ xs, ∃ n, Ty7 K B v n) (hn : ∀ p l n : Nat, xs = [.int (p : Int), .int (l : Int), .int (n : Int)] → n < 3 → p ≤ 999 → l ≤ 999 → False) : NoSeat K B (.ref a) :=
  ⟨some xs, .tup (Evl.st_of h) hl hi, fun ⟨p, l, n, e, h1, h2, h3⟩ => hn p l n (Option.some.inj e) h1 h2 h3⟩
theorem bad_no {v : V} {s : String} (h : Ty7 K B v s) (h1 : s ≠ "list") (h2 : s ≠ "tuple") : BadV K p l n B v := ⟨none, show ValR K B v none from .no h h1 h2, fun ⟨_, e, _⟩ => nomatch e⟩
theorem not_nearV {near : List (Nat × List Bool)} (hn : ¬NearP p l n near) : ¬NearV p l n (some (near.map pieceIs)) := fun ⟨near', e, h⟩ => by
  obtain rfl : near = near' := (List.map_inj_right fun a b h => pieceIs_inj h).mp (Option.some.inj e)
  exact hn h
theorem bad_near {near : List (Nat × List Bool)} {v : V} (h : WNear near B v) (hl : near.length ≤ 100) (h9 : ∀ q ∈ near, q.2.length = 9) (hn : ¬NearP p l n near) : BadV K p l n B v := by
  obtain ⟨a, rfl, h⟩ := h
  exact ⟨_, dv_near h hl h9, not_nearV hn⟩
theorem bad_nil {a : Addr} (h : B a = some (.lst [])) : BadV K p l n B (.ref a) := ⟨some [], ⟨[], .lst (Evl.sq_of h) (by decide) (fun v hv => nomatch hv), rfl, fun i v d hv => by simp at hv⟩, fun ⟨near, e, hN⟩ => by
  obtain ⟨b, r, e2, _⟩ := hN.head
  rw [e2] at e
  cases e⟩
theorem dv_one {a : Addr} {v : V} {d : Option (List V)} (h : B a = some (.lst [v])) (hv : ValR K B v d) (hs : ShortS d) : DV K B (.ref a) (some [d]) := ⟨[v], .lst (Evl.sq_of h) (by show 1 ≤ 4000; decide) (fun u hu => by
  rw [List.mem_singleton.mp hu]
  cases hv with
  | no g h1 h2 => exact ⟨_, g⟩
  | lst g hl hi => exact ⟨_, .lst g⟩
  | tup g hl hi => exact ⟨_, .tup g⟩), rfl, fun i u d' hu hd => by
  match i with
  | 0 => cases hu; cases hd; exact ⟨hv, hs⟩
  | i + 1 => cases hu⟩
theorem dv_two {a : Addr} {v u : V} {d e : Option (List V)} (h : B a = some (.lst [v, u])) (hv : ValR K B v d) (hs : ShortS d) (hu : ValR K B u e) (hz : ShortS e) : DV K B (.ref a) (some [d, e]) := ⟨[v, u], .lst (Evl.sq_of h) (by show 2 ≤ 4000; decide) (fun x hx => by
  have ty : ∀ {x : V} {o : Option (List V)}, ValR K B x o → ∃ n, Ty7 K B x n := fun hv => by
    cases hv with
    | no h h1 h2 => exact ⟨_, h⟩
    | lst h hl hi => exact ⟨_, .lst h⟩
    | tup h hl hi => exact ⟨_, .tup h⟩
  simp only [List.mem_cons, List.not_mem_nil, or_false] at hx
  rcases hx with rfl | rfl
  · exact ty hv
  · exact ty hu), rfl, fun i x d' hx hd => by
  match i with
  | 0 => cases hx; cases hd; exact ⟨hv, hs⟩
  | 1 => cases hx; cases hd; exact ⟨hu, hz⟩
  | i + 2 => cases hx⟩
theorem near_one {d : Option (List V)} (h : NearV p l n (some [d])) : ∃ q, d = pieceIs q ∧ NearP p l n [q] := by
  obtain ⟨near, e, hN⟩ := h
  match near, e with
  | [q], e => exact ⟨q, (List.cons.inj (Option.some.inj e)).1, hN⟩
theorem near_two {d e : Option (List V)} (h : NearV p l n (some [d, e])) : ∃ q r, d = pieceIs q ∧ e = pieceIs r ∧ NearP p l n [q, r] := by
  obtain ⟨near, e, hN⟩ := h
  match near, e with
  | [q, r], e =>
    have e := List.cons.inj (Option.some.inj e)
    exact ⟨q, r, e.1, (List.cons.inj e.2).1, hN⟩
/-- [(a, z)] that is none -/
theorem bad_pair {a r : Addr} {i : Int} {z : Str} (h : B a = some (.lst [.ref r])) (hr : B r = some (.tup [.int i, .str z])) (hz : z.length ≤ 1000) (hn : ∀ q : Nat × List Bool, i = (q.1 : Int) → z = sS q.2 → ¬NearP p l n [q]) : BadV K p l n B (.ref a) :=
  ⟨_, dv_one h (.tup (Evl.st_of hr) (by show 2 ≤ 4000; decide) ty_piece) (fun xs e y hy => by
    cases e
    simp only [List.mem_cons, List.not_mem_nil, or_false] at hy
    rcases hy with hy | hy
    · cases hy
    · rw [V.str.inj hy]; exact hz), fun h => by
    obtain ⟨q, e, hN⟩ := near_one h
    have e := Option.some.inj e
    have e1 := V.int.inj (List.cons.inj e).1
    have e2 := V.str.inj (List.cons.inj (List.cons.inj e).2).1
    exact hn q e1 e2 hN⟩
/-- [(..)] that holds no pair of a number and a text -/
theorem bad_odd {a r : Addr} {xs : List V} (h : B a = some (.lst [.ref r])) (hr : B r = some (.tup xs)) (hl : xs.length ≤ 1000) (ht : ∀ v ∈ xs, ∃ n, Ty7 K B v n) (hs : ∀ z, V.str z ∈ xs → z.length ≤ 1000) (hn : ∀ (i : Int) (z : Str), xs ≠ [.int i, .str z]) : BadV K p l n B (.ref a) :=
  ⟨_, dv_one h (.tup (Evl.st_of hr) (by omega) ht) (fun xs e y hy => by cases e; exact hs y hy), fun h => by
    obtain ⟨q, e, hN⟩ := near_one h
    exact hn _ _ (Option.some.inj e)⟩
theorem bad_oddL {a r : Addr} {i : Int} (h : B a = some (.lst [.ref r])) (hr : B r = some (.lst [.int i])) : BadV K p l n B (.ref a) :=
  ⟨_, dv_one h (.lst (Evl.sq_of hr) (by show 1 ≤ 4000; decide) fun v hv => by rw [List.mem_singleton.mp hv]; exact ⟨_, .int _⟩) (fun xs e y hy => by
    cases e
    have := List.mem_singleton.mp hy
    cases this), fun h => by
    obtain ⟨q, e, hN⟩ := near_one h
    have e := Option.some.inj e
    cases (List.cons.inj e).2⟩
theorem NearP.one {q : Nat × List Bool} (h : NearP p l n [q]) : q.1 = p ∧ q.2.length = 9 ∧ q.2.getD (3 + n) false = false := by
  obtain ⟨b, r, e, _⟩ := h.head
  obtain ⟨_, h2, _, h4⟩ := h.each q List.mem_cons_self
  have e1 : q.1 = p := by rw [(List.cons.inj e).1]
  exact ⟨e1, h2, h4 e1⟩
end
/-! ### texts -/
def zB : List Bool := List.replicate 9 false
def ownB (n : Nat) : List Bool := List.replicate (3 + n) false ++ [true] ++ List.replicate (5 - n) false
def ownS (n : Nat) : Str := mulS "0" (3 + n) ++ "1" ++ mulS "0" (5 - n)
theorem z9_is : mulS "0" 9 = sS zB := by decide +kernel
theorem own_is : ∀ n, n < 3 → ownS n = sS (ownB n) ∧ (ownB n).length = 9 ∧ (ownB n).getD (3 + n) false = true ∧ (ownS n).length ≤ 9 := by decide +kernel
theorem odd_x : ("00000000x" : Str).cps.toList.all in01 = false := by decide +kernel
theorem not8 {b : List Bool} (h : mulS "0" 8 = sS b) : b.length = 8 := by
  rw [← sS_len, ← h]
  decide +kernel
theorem not10 {b : List Bool} (h : mulS "0" 10 = sS b) : b.length = 10 := by
  rw [← sS_len, ← h]
  decide +kernel
theorem len_mul : (mulS "0" 8).length = 8 ∧ (mulS "0" 9).length = 9 ∧ (mulS "0" 10).length = 10 := by decide +kernel
/-! ### rows that are none -/
section
variable {p l n : Nat} {near : List (Nat × List Bool)}
theorem NearP.split (h : NearP p l n near) : ∃ b r, near = (p, b) :: r ∧ p ∉ r.map (·.1) := by
  obtain ⟨b, r, e, _, h2⟩ := h.head
  exact ⟨b, r, e, h2⟩
theorem no_rev (h : NearP p l n near) (h1 : 1 < near.length) : ¬NearP p l n near.reverse := fun h2 => by
  obtain ⟨b, r, e, hn⟩ := h.split
  obtain ⟨b2, r2, e2, _⟩ := h2.split
  subst e
  have e3 := congrArg List.reverse e2
  rw [List.reverse_reverse, List.reverse_cons] at e3
  cases hr : r2.reverse with
  | nil =>
    rw [hr] at e3
    obtain ⟨_, rfl⟩ := List.cons.inj e3
    exact absurd h1 (by show ¬(1 < 1); decide)
  | cons x xs =>
    rw [hr, List.cons_append] at e3
    obtain ⟨_, rfl⟩ := List.cons.inj e3
    exact hn (List.mem_map.mpr ⟨(p, b2), List.mem_append.mpr (.inr (List.mem_singleton.mpr rfl)), rfl⟩)
theorem no_again (h : NearP p l n near) {b : List Bool} : ¬NearP p l n (near ++ [(p, b)]) := fun h2 => by
  obtain ⟨b1, r, e, hn⟩ := h.split
  obtain ⟨b2, r2, e2, hn2⟩ := h2.split
  subst e
  rw [List.cons_append] at e2
  obtain ⟨_, rfl⟩ := List.cons.inj e2
  exact hn2 (by rw [List.map_append]; exact List.mem_append.mpr (.inr (List.mem_singleton.mpr rfl)))
theorem no_twice (h : NearP p l n near) {k : Nat} {b : List Bool} : ¬NearP p l n (near ++ [(k, b), (k, b)]) := fun h2 => by
  obtain ⟨b1, r, e, hn⟩ := h.split
  obtain ⟨b2, r2, e2, hp, hn2⟩ := h2.head
  subst e
  rw [List.cons_append] at e2
  obtain ⟨_, rfl⟩ := List.cons.inj e2
  rw [List.map_append] at hp
  have := (List.pairwise_append.mp hp).2.1
  have := (List.pairwise_cons.mp this).1 k (List.mem_singleton.mpr rfl)
  exact Nat.lt_irrefl _ this
theorem no_five {more : List (Nat × List Bool)} (h : NearP p l n near) (hm : more.length = 4) : ¬NearP p l n (near.take 1 ++ more) := fun h2 => by
  obtain ⟨b1, r, e, hn⟩ := h.split
  have := h2.len
  rw [e, List.take_succ_cons, List.take_zero, List.length_append, hm] at this
  exact absurd this (by show ¬(1 + 4 ≤ 4); decide)
end
end P60
end S_Kv
section S_Kx
namespace P60
open PySem PySem.Spec PyProof.Rows L2 Tl Hk LamX
def plainV : V → Bool
  | .non => true
  | .bl _ => true
  | .int _ => true
  | .str _ => true
  | _ => false
theorem ty_plain {K : PySem.W.Frag} {B : Hp} {xs : List V} (h : xs.all plainV = true) : ∀ v ∈ xs, ∃ n, Ty7 K B v n := fun v hv => by
  have := List.all_eq_true.mp h v hv
  cases v with
  | non => exact ⟨_, .non⟩
  | bl b => exact ⟨_, .bl b⟩
  | int i => exact ⟨_, .int i⟩
  | str s => exact ⟨_, .str s⟩
  | _ => cases this
section
variable {T : List (Addr × Str)} {t c : Addr} {n : Nat} {σ : L2.St} {H0 : Hp} {ta tb te : TE} {tA : TA} {W W1 W2 : Hp → V → Prop} {K : PySem.W.Frag}
abbrev tN (i : Int) : TE := tC (.int i)
abbrev tNeg (i : Int) : TE := tUn (rU fun i => .int (-i)) (tC (.int i))
abbrev tZ (k : Int) : TE := tOp rMulS (tC (.str "0")) (tC (.int k))
abbrev tIx (K : PySem.W.Frag) (te : TE) (j : Int) : TE := tOp (rIxT K) te (tC (.int j))
abbrev teSeats : TE := tLst (tCons (tC .non) (tCons (tN 5) (tCons (tTup (tCons (tN 0) (tCons (tN 0) tNil))) (tCons (tTup (tCons (tN 0) (tCons (tN 0) (tCons (tN 3) tNil))))
  (tCons (tTup (tCons (tNeg 1) (tCons (tN 0) (tCons (tN 0) tNil)))) (tCons (tTup (tCons (tN 0) (tCons (tNeg 1) (tCons (tN 0) tNil)))) (tCons (tTup (tCons (tN 0) (tCons (tC (.bl true)) (tCons (tN 0) tNil))))
  (tCons (tTup (tCons (tC (.str "0")) (tCons (tN 0) (tCons (tN 0) tNil)))) (tCons (tTup (tCons (tN 0) (tCons (tN 0) (tCons (tN 0) (tCons (tN 0) tNil))))) (tCons (tTup (tCons (tN 1000) (tCons (tN 0) (tCons (tN 0) tNil))))
  (tCons (tTup (tCons (tN 0) (tCons (tN 1000) (tCons (tN 0) tNil)))) (tCons tDNewK tNil))))))))))))
theorem ew_seatT {xs : List V} (h : ∀ H, Evl.EvU te σ H xs) (hp : xs.all plainV = true) (hl : xs.length ≤ 4000) (hn : ∀ p l n : Nat, xs = [.int (p : Int), .int (l : Int), .int (n : Int)] → n < 3 → p ≤ 999 → l ≤ 999 → False) : EvW T t c n te σ H0 (NoSeat K) :=
  ew_u (fun H e o => h H) fun H p e h => no_tup h hl (ty_plain hp) hn
theorem ew_dnew (hw : ∀ H p, strip t H p = some (.dK []) → W (strip t H) (.ref p)) : EvW T t c n tDNewK σ H0 W := fun H Q e o k => fun p hp => by
  have eN := Evl.Ex.new (o := .dK []) hp
  exact k _ _ (sx_ex eN) (o.ex eN) (hw _ _ (new_at o hp upd_same fun ps z => nomatch z))
theorem eu3 {a b d : V} {ta tb td : TE} {H : Hp} (h1 : Evl.Ev ta σ H a) (h2 : Evl.Ev tb σ H b) (h3 : Evl.Ev td σ H d) : Evl.EvU (tTup (tCons ta (tCons tb (tCons td tNil)))) σ H [a, b, d] := Evl.eu_tup (Evl.ea_cons h1 (Evl.ea_cons h2 (Evl.ea_cons h3 Evl.ea_nil))) (by show 3 ≤ 100000; decide)
theorem eu2 {a b : V} {ta tb : TE} {H : Hp} (h1 : Evl.Ev ta σ H a) (h2 : Evl.Ev tb σ H b) : Evl.EvU (tTup (tCons ta (tCons tb tNil))) σ H [a, b] := Evl.eu_tup (Evl.ea_cons h1 (Evl.ea_cons h2 Evl.ea_nil)) (by show 2 ≤ 100000; decide)
theorem ev_neg {i : Int} {H : Hp} : Evl.Ev (tNeg i) σ H (.int (-i)) := Evl.ev_un Evl.ev_c Evl.ru_neg
theorem ew_seats : EvW T t c n teSeats σ H0 (LstW 12 (NoSeat K)) := by
  have m : Mono (NoSeat K) := NoSeat.mono
  refine ew_all m (by decide) (all_cons m ?_ (all_cons m ?_ (all_cons m ?_ (all_cons m ?_ (all_cons m ?_ (all_cons m ?_ (all_cons m ?_ (all_cons m ?_ (all_cons m ?_ (all_cons m ?_ (all_cons m ?_ (all_cons m ?_ all_nil))))))))))))
  · exact ew_c fun H e => no_seat .non (by decide) (by decide)
  · exact ew_c fun H e => no_seat (.int 5) (by decide) (by decide)
  · exact ew_seatT (fun H => eu2 Evl.ev_c Evl.ev_c) rfl (by decide) fun p l n e h1 h2 h3 => by cases e
  · exact ew_seatT (fun H => eu3 Evl.ev_c Evl.ev_c Evl.ev_c) rfl (by decide) fun p l n e h1 h2 h3 => by
      simp only [List.cons.injEq, V.int.injEq, and_true] at e
      omega
  · exact ew_seatT (fun H => eu3 ev_neg Evl.ev_c Evl.ev_c) rfl (by decide) fun p l n e h1 h2 h3 => by
      simp only [List.cons.injEq, V.int.injEq, and_true] at e
      omega
  · exact ew_seatT (fun H => eu3 Evl.ev_c ev_neg Evl.ev_c) rfl (by decide) fun p l n e h1 h2 h3 => by
      simp only [List.cons.injEq, V.int.injEq, and_true] at e
      omega
  · exact ew_seatT (fun H => eu3 Evl.ev_c Evl.ev_c Evl.ev_c) rfl (by decide) fun p l n e h1 h2 h3 => by cases e
  · exact ew_seatT (fun H => eu3 Evl.ev_c Evl.ev_c Evl.ev_c) rfl (by decide) fun p l n e h1 h2 h3 => by cases e
  · exact ew_seatT (fun H => Evl.eu_tup (Evl.ea_cons Evl.ev_c (Evl.ea_cons Evl.ev_c (Evl.ea_cons Evl.ev_c (Evl.ea_cons Evl.ev_c Evl.ea_nil)))) (by show 4 ≤ 100000; decide)) rfl (by decide) fun p l n e h1 h2 h3 => by cases e
  · exact ew_seatT (fun H => eu3 Evl.ev_c Evl.ev_c Evl.ev_c) rfl (by decide) fun p l n e h1 h2 h3 => by
      simp only [List.cons.injEq, V.int.injEq, and_true] at e
      omega
  · exact ew_seatT (fun H => eu3 Evl.ev_c Evl.ev_c Evl.ev_c) rfl (by decide) fun p l n e h1 h2 h3 => by
      simp only [List.cons.injEq, V.int.injEq, and_true] at e
      omega
  · exact ew_dnew fun H p h => no_seat (.dK h) (by decide) (by decide)
/-! ### rows -/
theorem ev_mul {k : Nat} {te : TE} {H : Hp} (h : Evl.Ev te σ H (.int (k : Int))) (h2 : 2 ≤ k) (hk : k ≤ 1000) : Evl.Ev (tOp rMulS (tC (.str "0")) te) σ H (.str (mulS "0" k)) := Evl.ev_op Evl.ev_c h fun G e Q q => ⟨"0", k, rfl, rfl, h2, by decide, by show 1 * k ≤ 1000; omega, q G (Evl.Ex.refl _)⟩
theorem ev_z9 {H : Hp} : Evl.Ev (tZ 9) σ H (.str (sS zB)) := by
  rw [← z9_is]
  exact ev_mul Evl.ev_c (by decide) (by decide)
theorem ew_if {tt : TT} {b : Bool} (ht : ∀ H, Evl.Ex (strip t H0) (strip t H) → Od T t c n H → Evl.EvT tt σ H b) (h1 : b = true → EvW T t c n ta σ H0 W) (h2 : b = false → EvW T t c n tb σ H0 W) : EvW T t c n (tIf tt ta tb) σ H0 W := fun H Q e o k =>
  ht H e o H (Evl.Ex.refl _) _ fun H1 e1 => if_go (fun z => h1 z H1 Q (e.trans (sx_ex e1)) (o.ex e1) fun v H2 e2 o2 w => k v H2 ((sx_ex e1).trans e2) o2 w) fun z => h2 z H1 Q (e.trans (sx_ex e1)) (o.ex e1) fun v H2 e2 o2 w => k v H2 ((sx_ex e1).trans e2) o2 w
/-- [x] with x a new tuple -/
theorem ew_l1u {xs : List V} (h : ∀ H, Evl.Ex (strip t H0) (strip t H) → Od T t c n H → Evl.EvU te σ H xs) (hw : ∀ B p r, B p = some (.lst [.ref r]) → B r = some (.tup xs) → W B (.ref p)) : EvW T t c n (tLst (tCons te tNil)) σ H0 W :=
  ew_lst (WA := fun B vs => ∃ r, vs = [.ref r] ∧ B r = some (.tup xs)) (ea_consW (W1 := fun B v => ∃ r, v = .ref r ∧ B r = some (.tup xs)) (WB := fun B vs => vs = []) (ew_u h fun H p e hp => ⟨p, rfl, hp⟩) (ea_nilW fun B => rfl) (fun B B1 v e ⟨r, a, b⟩ => ⟨r, a, e _ _ b⟩) fun B v vs ⟨r, a, b⟩ z => ⟨r, by rw [a, z], b⟩)
    (fun B B1 v e ⟨r, a, b⟩ => ⟨r, a, e _ _ b⟩) (fun B vs ⟨r, a, b⟩ => by rw [a]; show 1 ≤ 1000; decide) fun B p vs ⟨r, a, b⟩ hp => hw B p r (by rw [← a]; exact hp) b
theorem ew_l1l {xs : List V} (h : ∀ H, Evl.Ex (strip t H0) (strip t H) → Od T t c n H → Evl.EvL te σ H xs) (hw : ∀ B p r, B p = some (.lst [.ref r]) → B r = some (.lst xs) → W B (.ref p)) : EvW T t c n (tLst (tCons te tNil)) σ H0 W :=
  ew_lst (WA := fun B vs => ∃ r, vs = [.ref r] ∧ B r = some (.lst xs)) (ea_consW (W1 := fun B v => ∃ r, v = .ref r ∧ B r = some (.lst xs)) (WB := fun B vs => vs = []) (ew_l h fun H p e hp => ⟨p, rfl, hp⟩) (ea_nilW fun B => rfl) (fun B B1 v e ⟨r, a, b⟩ => ⟨r, a, e _ _ b⟩) fun B v vs ⟨r, a, b⟩ z => ⟨r, by rw [a, z], b⟩)
    (fun B B1 v e ⟨r, a, b⟩ => ⟨r, a, e _ _ b⟩) (fun B vs ⟨r, a, b⟩ => by rw [a]; show 1 ≤ 1000; decide) fun B p vs ⟨r, a, b⟩ hp => hw B p r (by rw [← a]; exact hp) b
theorem ew_l2u {xs ys : List V} {te2 : TE} (h : ∀ H, Evl.Ex (strip t H0) (strip t H) → Od T t c n H → Evl.EvU te σ H xs) (h2 : ∀ H, Evl.Ex (strip t H0) (strip t H) → Od T t c n H → Evl.EvU te2 σ H ys)
    (hw : ∀ B p r s, B p = some (.lst [.ref r, .ref s]) → B r = some (.tup xs) → B s = some (.tup ys) → W B (.ref p)) : EvW T t c n (tLst (tCons te (tCons te2 tNil))) σ H0 W :=
  ew_lst (WA := fun B vs => ∃ r s, vs = [.ref r, .ref s] ∧ B r = some (.tup xs) ∧ B s = some (.tup ys)) (ea_consW (W1 := fun B v => ∃ r, v = .ref r ∧ B r = some (.tup xs)) (WB := fun B vs => ∃ s, vs = [.ref s] ∧ B s = some (.tup ys)) (ew_u h fun H p e hp => ⟨p, rfl, hp⟩)
      (ea_consW (W1 := fun B v => ∃ r, v = .ref r ∧ B r = some (.tup ys)) (WB := fun B vs => vs = []) (ew_u h2 fun H p e hp => ⟨p, rfl, hp⟩) (ea_nilW fun B => rfl) (fun B B1 v e ⟨r, a, b⟩ => ⟨r, a, e _ _ b⟩) fun B v vs ⟨r, a, b⟩ z => ⟨r, by rw [a, z], b⟩)
      (fun B B1 v e ⟨r, a, b⟩ => ⟨r, a, e _ _ b⟩) fun B v vs ⟨r, a, b⟩ ⟨s, a2, b2⟩ => ⟨r, s, by rw [a, a2], b, b2⟩)
    (fun B B1 v e ⟨r, s, a, b, d⟩ => ⟨r, s, a, e _ _ b, e _ _ d⟩) (fun B vs ⟨r, s, a, b⟩ => by rw [a]; show 2 ≤ 1000; decide) fun B p vs ⟨r, s, a, b, d⟩ hp => hw B p r s (by rw [← a]; exact hp) b d
/-- {0: text} -/
theorem ew_disp {z : Str} (h : ∀ H, Evl.Ev te σ H (.str z)) (hw : ∀ B p kvs, B p = some (.dK kvs) → W B (.ref p)) : EvW T t c n (tDisp [(tC (.int 0), te)]) σ H0 W := fun H Q e o k => fun p hp =>
  h (upd H p (.dK [])) _ (Evl.Ex.refl _) _ fun H2 e2 => ⟨e2 _ _ upd_same, [(Sum.inl 0, .str z)], rfl, by show 1 ≤ 15; decide, by
    have eN : Evl.Ex H (upd H2 p (.dK (mergeK [] [(Sum.inl 0, .str z)]))) := ((Evl.Ex.new hp).trans e2).mut hp
    exact k _ _ (sx_ex eN) (o.ex eN) (hw _ _ _ (new_at o hp upd_same fun ps z => nomatch z))⟩
end
end P60
end S_Kx
section S_Ky
namespace P60
open PySem PySem.Spec PyProof.Rows L2 Tl Hk LamX
abbrev tAdd (ta tb : TE) : TE := tOp (rI0 fun i j => .int (i + j)) ta tb
abbrev tSub (ta tb : TE) : TE := tOp (rI0 fun i j => .int (i - j)) ta tb
abbrev tAddS (ta tb : TE) : TE := tOp (fun x y H Q => ∃ i j, x = .str i ∧ y = .str j ∧ i.length + j.length ≤ sizeLine ∧ Q (.str (i ++ j)) H) ta tb
abbrev teBent1 (K : PySem.W.Frag) : TE := tLst (tCons (tC .non) (tCons (tN 5) (tCons (tLst tNil)
  (tCons (tIf (tTest (tOp (rI0 fun i j => .bl (decide (j < i))) (tCB (Evl.rLenS K) (tCons (tVar 3) tNil)) (tN 1))) (tRevT K (tVar 3)) (tLst tNil))
  (tCons (tOp (rCatA K) (tVar 3) (tTup (tCons (tTup (tCons (tIx K (tIx K (tVar 3) 0) 0) (tCons (tIx K (tIx K (tVar 3) 0) 1) tNil))) tNil)))
  (tCons (tOp (rCatA K) (tVar 3) (tOp (rRepT K) (tTup (tCons (tTup (tCons (tN 20) (tCons (tZ 9) tNil))) tNil)) (tN 2)))
  (tCons (tLst (tCons (tTup (tCons (tAdd (tIx K (tVar 2) 0) (tN 1)) (tCons (tZ 9) tNil))) tNil)) tNil)))))))
abbrev teRows4 (K : PySem.W.Frag) : TE := tCB (fun xs H Q => ∃ p ys, xs = [V.ref p] ∧ ((SqL K H p ys ∧ ∀ l, H l = none → Q (V.ref l) (upd H l (HO.tup ys))) ∨ (SqT K H p ys ∧ Q (V.ref p) H))) (tCons (tLc (iRng1 (tCons (tN 4) tNil)) (gName 8) tYes (tTup (tCons (tAdd (tVar 8) (tN 30)) (tCons (tZ 9) tNil))) [8]) tNil)
abbrev teBent2 (K : PySem.W.Frag) : TE := tLst (tCons (tOp (rCatA K) (tSl (rSlA K) (tVar 3) tNoPart (tPart (tN 1))) (teRows4 K))
  (tCons (tLst (tCons (tTup (tCons (tIx K (tVar 2) 0) (tCons (tZ 8) tNil))) tNil)) (tCons (tLst (tCons (tTup (tCons (tIx K (tVar 2) 0) (tCons (tZ 10) tNil))) tNil))
  (tCons (tLst (tCons (tTup (tCons (tIx K (tVar 2) 0) (tCons (tN 0) tNil))) tNil)) (tCons (tLst (tCons (tLst (tCons (tIx K (tVar 2) 0) tNil)) tNil)) tNil)))))
abbrev teBent3 (K : PySem.W.Frag) : TE := tLst (tCons (tLst (tCons (tTup (tCons (tIx K (tVar 2) 0) (tCons (tVar 6) tNil))) tNil)) (tCons (tLst (tCons (tTup (tCons (tIx K (tVar 2) 0) (tCons (tZ 9) (tCons (tN 1) tNil)))) tNil))
  (tCons (tLst (tCons (tTup (tCons (tC (.bl true)) (tCons (tZ 9) tNil))) tNil)) (tCons (tLst (tCons (tTup (tCons (tIx K (tVar 2) 0) (tCons (tZ 9) tNil))) (tCons (tTup (tCons (tN 1000) (tCons (tZ 9) tNil))) tNil)))
  (tCons (tLst (tCons (tTup (tCons (tIx K (tVar 2) 0) (tCons (tC (.str "00000000x")) tNil))) tNil)) (tCons (tC (.str "0 0 0")) (tCons (tDisp [(tC (.int 0), tZ 9)]) tNil)))))))
structure Ctx (σ : L2.St) (t : Addr) (H0 : Hp) (S N : Addr) (L : Lb) : Prop where
  h2 : σ[2]? = some (some (.ref S))
  h3 : σ[3]? = some (some (.ref N))
  hS : strip t H0 S = some (.tup (seatL L.p L.l L.n))
  hN : NearAt (strip t H0) N L.near
  ok : L.Ok
section
variable {T : List (Addr × Str)} {t c : Addr} {n : Nat} {σ : L2.St} {H0 : Hp} {K : PySem.W.Frag} {S N : Addr} {L : Lb}
theorem Ctx.piece (C : Ctx σ t H0 S N L) {H : Hp} (e : Evl.Ex (strip t H0) (strip t H)) : Evl.Ev (tIx K (tVar 2) 0) σ H (.int (L.p : Int)) := ev_at (j := 0) (Evl.ev_var C.h2) (strip_ex _ _ (e _ _ C.hS)) rfl
theorem Ctx.lane (C : Ctx σ t H0 S N L) {H : Hp} (e : Evl.Ex (strip t H0) (strip t H)) : Evl.Ev (tIx K (tVar 2) 2) σ H (.int (L.n : Int)) := ev_at (j := 2) (Evl.ev_var C.h2) (strip_ex _ _ (e _ _ C.hS)) rfl
theorem Ctx.near (C : Ctx σ t H0 S N L) : EvW T t c n (tVar 3) σ H0 (WNear L.near) := ew_v (fun H e o => Evl.ev_var C.h3) fun H e => ⟨N, rfl, C.hN.ex e⟩
theorem Lb.Ok.ne (h : L.Ok) : L.near ≠ [] := fun z => by
  obtain ⟨b, r, e, _⟩ := h.near.head
  rw [z] at e
  cases e
theorem Lb.Ok.nine (h : L.Ok) : ∀ q ∈ L.near, q.2.length = 9 := fun q hq => (h.near.each q hq).2.1
theorem nine_app {n1 n2 : List (Nat × List Bool)} (h1 : ∀ q ∈ n1, q.2.length = 9) (h2 : ∀ q ∈ n2, q.2.length = 9) : ∀ q ∈ n1 ++ n2, q.2.length = 9 := fun q hq => (List.mem_append.mp hq).elim (h1 q) (h2 q)
theorem ew_bent1 (C : Ctx σ t H0 S N L) : EvW T t c n (teBent1 K) σ H0 (LstW 7 (BadV K L.p L.l L.n)) := by
  have m : Mono (BadV K L.p L.l L.n) := BadV.mono
  have ok := C.ok
  have l4 := ok.near.len
  have h9 := ok.nine
  obtain ⟨b0, r0, e0, _⟩ := ok.near.split
  refine ew_all m (by decide) (all_cons m ?_ (all_cons m ?_ (all_cons m ?_ (all_cons m ?_ (all_cons m ?_ (all_cons m ?_ (all_cons m ?_ all_nil)))))))
  · exact ew_c fun H e => bad_no .non (by decide) (by decide)
  · exact ew_c fun H e => bad_no (.int 5) (by decide) (by decide)
  · exact ew_l (xs := []) (fun H e o => Evl.el_lst Evl.ea_nil (by show 0 ≤ 100000; decide)) fun H p e h => bad_nil h
  · refine ew_if (b := decide (1 < L.near.length)) (fun H e o => ?_) (fun z => ?_) fun z => ew_l (xs := []) (fun H e o => Evl.el_lst Evl.ea_nil (by show 0 ≤ 100000; decide)) fun H p e h => bad_nil h
    · obtain ⟨rs, a1, a2⟩ := C.hN.ex e
      have hl := rows_refs a2
      refine Evl.et_is (Evl.et_test (Evl.ev_op (ev_lenB (Evl.ev_var C.h3) (.inr (Evl.st_of (strip_ex _ _ a1)))) Evl.ev_c Evl.rv_I0)) ?_
      rw [hl]
      exact decide_eq_decide.mpr (by omega)
    · exact ew_mono (ew_revN C.near) fun B v w => bad_near w (by rw [List.length_reverse]; omega) (fun q hq => h9 q (List.mem_reverse.mp hq)) (no_rev ok.near (of_decide_eq_true z))
  · refine ew_mono (ew_catN (n2 := [(L.p, b0)]) (by show _ + 1 ≤ 1000; omega) ok.ne (List.cons_ne_nil _ _) C.near (ew_oneN fun H e o => ?_)) fun B v w => bad_near w (by rw [List.length_append]; show _ + 1 ≤ 100; omega) (nine_app h9 fun q hq => by rw [List.mem_singleton.mp hq]; exact h9 (L.p, b0) (by rw [e0]; exact List.mem_cons_self)) (no_again ok.near)
    obtain ⟨rs, a1, a2⟩ := C.hN.ex e
    have a1 := strip_ex _ _ a1
    obtain ⟨r, rs', rfl⟩ : ∃ r rs', rs = r :: rs' := by
      cases rs with
      | nil =>
        have := a2.1
        rw [e0] at this
        cases this
      | cons r rs' => exact ⟨r, rs', rfl⟩
    have hr : H r = some (.tup [.int (L.p : Int), .str (sS b0)]) := strip_ex _ _ (a2.2 0 r (L.p, b0) rfl (by rw [e0] <;> rfl))
    have e1 : Evl.Ev (tIx K (tVar 3) 0) σ H (.ref r) := ev_at (j := 0) (Evl.ev_var C.h3) a1 rfl
    exact eu2 (ev_at (j := 0) e1 hr rfl) (ev_at (j := 1) e1 hr rfl)
  · exact ew_mono (ew_catN (n2 := [(20, zB), (20, zB)]) (by show _ + 2 ≤ 1000; omega) ok.ne (List.cons_ne_nil _ _) C.near (ew_twice (ew_oneN (q := (20, zB)) fun H e o => eu2 Evl.ev_c ev_z9))) fun B v w => bad_near w (by rw [List.length_append]; show _ + 2 ≤ 100; omega) (nine_app h9 fun q hq => by
      simp only [List.mem_cons, List.not_mem_nil, or_false] at hq
      rcases hq with rfl | rfl <;> rfl) (no_twice ok.near)
  · refine ew_l1u (xs := [.int ((L.p : Int) + 1), .str (sS zB)]) (fun H e o => eu2 (Evl.ev_op (C.piece e) Evl.ev_c Evl.rv_I0) ev_z9) fun B p r hp hr => bad_pair hp hr (by rw [sS_len]; decide) fun q e1 e2 hN => ?_
    have := hN.one.1
    omega
end
end P60
end S_Ky
section S_Kz
namespace P60
open PySem PySem.Spec PyProof.Rows L2 Tl Hk LamX
theorem tabs_mut {T : List (Addr × Str)} {A : Hp} {D : Addr} {l l' : List V} (h : Tabs T A) (hD : A D = some (.lst l)) : Tabs T (upd A D (.lst l')) := fun p hp => by
  obtain ⟨ps, h1, h2, h3⟩ := h p hp
  have ne : ∀ {a : Addr} {o : HO}, A a = some o → (∀ l, o ≠ .lst l) → upd A D (.lst l') a = some o := fun {a o} e n => by
    rw [upd_ne (fun z => by rw [z, hD] at e; exact n l (Option.some.inj e).symm)]
    exact e
  refine ⟨ps, ne h1 (fun l z => nomatch z), h2, fun pos cv hc => ?_⟩
  obtain ⟨c', e1, e2⟩ := h3 pos cv hc
  exact ⟨c', e1, ne e2 fun l z => nomatch z⟩
def rows4 (k : Nat) : List (Nat × List Bool) := (List.range k).map fun i => (30 + i, zB)
section
variable {T : List (Addr × Str)} {t c : Addr} {n : Nat} {σ : L2.St} {H0 : Hp} {K : PySem.W.Frag} {S N : Addr} {L : Lb}
theorem ew_rows4 (hw : ∀ x, wipe ((wipe σ [8]).set 8 x) [8] = wipe σ [8]) (hj : ∀ x, ((wipe σ [8]).set 8 (some x))[8]? = some (some x)) : EvW T t c n (teRows4 K) σ H0 (WNear (rows4 4)) := fun H Q e o k => by
  obtain ⟨ob, ht⟩ := tub_at o.tub
  refine cons_any (go_lcT ht (ei_rng1c (n := 4) rfl (Evl.ea_cons Evl.ev_c Evl.ea_nil) (by decide) (by decide)) (aims_fn (j := 8)) (fun _ => hw _) (by decide)
    (fun i acc A => ∃ rs : List Addr, acc = rs.map V.ref ∧ RowsP A rs (rows4 i) ∧ Od T t c n A)
    (fun H2 e2 => ⟨[], rfl, ⟨rfl, (fun i r q a _ => by simp at a)⟩, o.ex e2⟩)
    (fun i acc A B ⟨rs, a1, a2, a3⟩ e => ⟨rs, a1, a2.ex e, a3.ex e⟩)
    (fun i acc A D l1 l2 D0 Dt hD ⟨rs, a1, a2, a3⟩ => ⟨rs, a1, a2.mono (pair_upd hD), tabs_mut a3.tabs hD, a3.tub.upd Dt (o.tub.ne D0).2⟩)
    (fun i acc A F1 F2 hi kA hacc ⟨rs, a1, a2, a3⟩ f1 f2 => ?_) (fun D acc A D0 Dt hD hle kA ⟨rs, a1, a2, a3⟩ => ?_))
  · refine yes_at (P := fun H3 => _) ?_
    refine (eu2 (a := .int (((30 + i : Nat) : Nat) : Int)) (b := .str (sS zB)) (Evl.ev_is (Evl.ev_op (Evl.ev_var (hj _)) Evl.ev_c Evl.rv_I0) (congrArg V.int (by omega))) ev_z9) A (Evl.Ex.refl _) _ fun p A2 hp e2 h2 => ?_
    refine f1 (.ref p) A2 (fun a u _ h => e2 a u h) ⟨rs ++ [p], by rw [a1, List.map_append]; rfl, ?_, a3.ex e2⟩
    unfold rows4
    rw [List.range_succ, List.map_append]
    exact (a2.ex e2).snoc h2
  · subst a1
    refine ⟨D, rs.map V.ref, rfl, .inl ⟨Evl.sq_of hD, fun p hp => ?_⟩⟩
    have eN := Evl.Ex.new (o := .tup (rs.map V.ref)) hp
    exact k _ _ ((sx_kept kA).trans (sx_ex eN)) (a3.ex eN) ⟨p, rfl, rs, new_at a3 hp upd_same (fun ps z => nomatch z), a2.mono fun r q h => sx_ex eN _ _ (strip_at h (fun z => by
      obtain ⟨cs, turn, rest, h1, _⟩ := a3.tub
      have h : A r = some (.tup [.int (q.1 : Int), .str (sS q.2)]) := h
      rw [z, h1] at h
      cases h) fun ps z => nomatch z)⟩
theorem rows4_is : (rows4 4).length = 4 ∧ ∀ q ∈ rows4 4, q.2.length = 9 := by decide
theorem sS_nine {b : List Bool} {z : Str} (h : z = sS b) : b.length = z.length := by rw [h, sS_len]
theorem ew_bent2 (C : Ctx σ t H0 S N L) (hw : ∀ x, wipe ((wipe σ [8]).set 8 x) [8] = wipe σ [8]) (hj : ∀ x, ((wipe σ [8]).set 8 (some x))[8]? = some (some x)) : EvW T t c n (teBent2 K) σ H0 (LstW 5 (BadV K L.p L.l L.n)) := by
  have m : Mono (BadV K L.p L.l L.n) := BadV.mono
  have ok := C.ok
  have l4 := ok.near.len
  have h9 := ok.nine
  have lt := List.length_take_le 1 L.near
  obtain ⟨b0, r0, e0, _⟩ := ok.near.split
  refine ew_all m (by decide) (all_cons m ?_ (all_cons m ?_ (all_cons m ?_ (all_cons m ?_ (all_cons m ?_ all_nil)))))
  · refine ew_mono (ew_catN (n1 := L.near.take 1) (n2 := rows4 4) (by have := rows4_is.1; omega) (by rw [e0]; exact List.cons_ne_nil _ _) (fun z => by have := rows4_is.1; rw [z] at this; cases this) (ew_takeN (k := 1) C.near) (ew_rows4 hw hj)) fun B v w => bad_near w (by rw [List.length_append]; have := rows4_is.1; omega) (nine_app (fun q hq => h9 q (List.mem_of_mem_take hq)) rows4_is.2) (no_five ok.near rows4_is.1)
  · refine ew_l1u (xs := [.int (L.p : Int), .str (mulS "0" 8)]) (fun H e o => eu2 (C.piece e) (ev_mul (k := 8) Evl.ev_c (by decide) (by decide))) fun B p r hp hr => bad_pair hp hr (by rw [len_mul.1]; decide) fun q e1 e2 hN => ?_
    have := hN.one.2.1
    rw [not8 e2] at this
    cases this
  · refine ew_l1u (xs := [.int (L.p : Int), .str (mulS "0" 10)]) (fun H e o => eu2 (C.piece e) (ev_mul (k := 10) Evl.ev_c (by decide) (by decide))) fun B p r hp hr => bad_pair hp hr (by rw [len_mul.2.2]; decide) fun q e1 e2 hN => ?_
    have := hN.one.2.1
    rw [not10 e2] at this
    cases this
  · exact ew_l1u (xs := [.int (L.p : Int), .int 0]) (fun H e o => eu2 (C.piece e) Evl.ev_c) fun B p r hp hr => bad_odd hp hr (by show 2 ≤ 1000; decide) (ty_plain rfl) (fun z hz => by
      simp only [List.mem_cons, List.not_mem_nil, or_false] at hz
      rcases hz with hz | hz <;> cases hz) fun i z e => by cases (List.cons.inj e).2
  · exact ew_l1l (xs := [.int (L.p : Int)]) (fun H e o => Evl.el_lst (Evl.ea_cons (C.piece e) Evl.ea_nil) (by show 1 ≤ 100000; decide)) fun B p r hp hr => bad_oddL hp hr
theorem ew_bent3 (C : Ctx σ t H0 S N L) (h6 : σ[6]? = some (some (.str (ownS L.n)))) : EvW T t c n (teBent3 K) σ H0 (LstW 7 (BadV K L.p L.l L.n)) := by
  have m : Mono (BadV K L.p L.l L.n) := BadV.mono
  have ok := C.ok
  obtain ⟨o1, o2, o3, o4⟩ := own_is L.n ok.hn
  refine ew_all m (by decide) (all_cons m ?_ (all_cons m ?_ (all_cons m ?_ (all_cons m ?_ (all_cons m ?_ (all_cons m ?_ (all_cons m ?_ all_nil)))))))
  · refine ew_l1u (xs := [.int (L.p : Int), .str (ownS L.n)]) (fun H e o => eu2 (C.piece e) (Evl.ev_var h6)) fun B p r hp hr => bad_pair hp hr (by omega) fun q e1 e2 hN => ?_
    have := hN.one.2.2
    rw [o1] at e2
    rw [← sS_inj e2, o3] at this
    cases this
  · exact ew_l1u (xs := [.int (L.p : Int), .str (sS zB), .int 1]) (fun H e o => eu3 (C.piece e) ev_z9 Evl.ev_c) fun B p r hp hr => bad_odd hp hr (by show 3 ≤ 1000; decide) (ty_plain rfl) (fun z hz => by
      simp only [List.mem_cons, List.not_mem_nil, or_false] at hz
      rcases hz with hz | hz | hz
      · cases hz
      · rw [V.str.inj hz, sS_len]; decide
      · cases hz) fun i z e => by cases (List.cons.inj (List.cons.inj e).2).2
  · exact ew_l1u (xs := [.bl true, .str (sS zB)]) (fun H e o => eu2 Evl.ev_c ev_z9) fun B p r hp hr => bad_odd hp hr (by show 2 ≤ 1000; decide) (ty_plain rfl) (fun z hz => by
      simp only [List.mem_cons, List.not_mem_nil, or_false] at hz
      rcases hz with hz | hz
      · cases hz
      · rw [V.str.inj hz, sS_len]; decide) fun i z e => by cases (List.cons.inj e).1
  · refine ew_l2u (xs := [.int (L.p : Int), .str (sS zB)]) (ys := [.int 1000, .str (sS zB)]) (fun H e o => eu2 (C.piece e) ev_z9) (fun H e o => eu2 Evl.ev_c ev_z9) fun B p r s hp hr hs => ?_
    have sh : ∀ i : Int, ShortS (some [V.int i, .str (sS zB)]) := fun i xs e y hy => by
      cases e
      simp only [List.mem_cons, List.not_mem_nil, or_false] at hy
      rcases hy with hy | hy
      · cases hy
      · rw [V.str.inj hy, sS_len]; decide
    refine ⟨_, dv_two hp (.tup (Evl.st_of hr) (by show 2 ≤ 4000; decide) ty_piece) (sh _) (.tup (Evl.st_of hs) (by show 2 ≤ 4000; decide) ty_piece) (sh _), fun h => ?_⟩
    obtain ⟨q, q2, e1, e2, hN⟩ := near_two h
    have := (hN.each q2 (List.mem_cons_of_mem _ List.mem_cons_self)).1
    have e2 := V.int.inj (List.cons.inj (Option.some.inj e2)).1
    omega
  · refine ew_l1u (xs := [.int (L.p : Int), .str "00000000x"]) (fun H e o => eu2 (C.piece e) Evl.ev_c) fun B p r hp hr => bad_pair hp hr (by decide) fun q e1 e2 hN => ?_
    have := sS_in01 q.2
    rw [← e2, odd_x] at this
    cases this
  · exact ew_c fun H e => bad_no (.str _) (by decide) (by decide)
  · exact ew_disp (fun H => ev_z9) fun B p kvs h => bad_no (.dK h) (by decide) (by decide)
/-- '0' * (3 + seat[2]) + '1' + '0' * (5 - seat[2]) -/
theorem ev_own (C : Ctx σ t H0 S N L) {H : Hp} (e : Evl.Ex (strip t H0) (strip t H)) : Evl.Ev (tAddS (tAddS (tOp rMulS (tC (.str "0")) (tAdd (tN 3) (tIx K (tVar 2) 2))) (tC (.str "1"))) (tOp rMulS (tC (.str "0")) (tSub (tN 5) (tIx K (tVar 2) 2)))) σ H (.str (ownS L.n)) := by
  have hn := C.ok.hn
  obtain ⟨o1, o2, o3, o4⟩ := own_is L.n hn
  have a1 : Evl.Ev (tOp rMulS (tC (.str "0")) (tAdd (tN 3) (tIx K (tVar 2) 2))) σ H (.str (mulS "0" (3 + L.n))) := ev_mul (Evl.ev_is (Evl.ev_op Evl.ev_c (C.lane e) Evl.rv_I0) (congrArg V.int (by omega))) (by omega) (by omega)
  have a2 : Evl.Ev (tOp rMulS (tC (.str "0")) (tSub (tN 5) (tIx K (tVar 2) 2))) σ H (.str (mulS "0" (5 - L.n))) := ev_mul (Evl.ev_is (Evl.ev_op Evl.ev_c (C.lane e) Evl.rv_I0) (congrArg V.int (by omega))) (by omega) (by omega)
  have l1 : ∀ n, n < 3 → (mulS "0" (3 + n)).length + ("1" : Str).length ≤ 100 ∧ (mulS "0" (3 + n) ++ ("1" : Str)).length + (mulS "0" (5 - n)).length ≤ 100 := by decide +kernel
  exact Evl.ev_op (Evl.ev_op a1 Evl.ev_c (z := .str (mulS "0" (3 + L.n) ++ "1")) fun G e Q q => ⟨_, _, rfl, rfl, by rw [sizeLine_eq]; have := (l1 _ hn).1; omega, q G (Evl.Ex.refl _)⟩) a2 fun G e Q q => ⟨_, _, rfl, rfl, by rw [sizeLine_eq]; have := (l1 _ hn).2; omega, q G (Evl.Ex.refl _)⟩
end
end P60
end S_Kz
section S_Kw
namespace P60
open PySem PySem.Spec PyProof.Rows L2 Tl Hk LamX
def spPartsRight (T1 T2 : Addr) : Sp := fun vs H Q _ => ∃ (t c A : Addr) (n : Nat) (L : Lb), vs = [.ref t, .ref A] ∧ Tub H t c n ∧ n ≤ 50000 ∧ L.Dr ∧ LabAt H A L ∧ Tabs (Ts T1 T2) H ∧ ∀ H', (∀ a o, a ≠ t → H a = some o → (∀ ps, o ≠ .tbl ps) → H' a = some o) → Tub H' t c (n + 2) → Tabs (Ts T1 T2) H' → Q (.bl true) H'
abbrev nPR : List Str := ["tagger", "label", "seat", "near", "none", "bent", "own", "bad", "at"]
theorem scPR : FnScope nPR ["tagger", "label"] (defScope sLPartsRight) := ⟨rfl, rfl, rfl, by decide +kernel, rfl, by decide +kernel, by decide +kernel⟩
theorem ha1P : ("a1" : Str) ∉ nPR := by decide
theorem tup_strip {H : Hp} {t c a : Addr} {n : Nat} {xs : List V} (T : Tub H t c n) (h : H a = some (.tup xs)) : strip t H a = some (.tup xs) := strip_at h (fun z => by
  obtain ⟨cs, turn, rest, h1, _⟩ := T
  rw [z, h1] at h
  cases h) fun ps z => nomatch z
theorem near_strip {H : Hp} {t c N : Addr} {n : Nat} {near : List (Nat × List Bool)} (T : Tub H t c n) (h : NearAt H N near) : NearAt (strip t H) N near := by
  obtain ⟨rs, h1, h2⟩ := h
  exact ⟨rs, tup_strip T h1, h2.mono fun r q hp => tup_strip T hp⟩
theorem tub_strip {H : Hp} {T t c : Addr} {n : Nat} {ps : Array Value} (hT : H T = some (.tbl ps)) (h : Tub H t c n) : Tub (strip T H) t c n := by
  obtain ⟨cs, turn, rest, h1, h2, h3⟩ := h
  exact ⟨cs, turn, rest, strip_tb (t := T) hT h1 (fun ps z => nomatch z), strip_tb (t := T) hT h2 (fun ps z => nomatch z), h3⟩
section
variable {P : Program} {w : World} {K : PySem.W.Frag} {mg : Str → Option Value} {base : Heap}
set_option maxHeartbeats 4000000 in
theorem ok_partsRight {f fP fX fH CL CS CE c T1 T2 : Addr} {fd fdP fdX fdH : FuncData} {k : Nat} (F : Fun K "_law_parts_right" "_law_parts_right" sLPartsRight f fd) (hcode : fd.code = .ref c) (TB : TabB base mg c T2) (hne : T1 ≠ T2)
    (FP : Fun K "_law_one_of" "_law_one_of" sPick fP fdP) (GP : FnOk P w K mg base CX0 k fP fdP ["tagger", "some"] (spPick K)) (bP : Binds K fdP ["tagger", "some"] []) (gP : mg "_law_one_of" = some (.ref fP))
    (FX : Fun K "label_text" "label_text" sLabelText fX fdX) (GX : FnOk P w K mg base (L2.CX P w) k fX fdX ["seat", "near"] (spLabelText K CS CL)) (bX : Binds K fdX ["seat", "near"] []) (gX : mg "label_text" = some (.ref fX))
    (FH : Fun K "_law_heard" "_law_heard" sHeard fH fdH) (bH : Binds K fdH ["ask"] []) (gH : mg "_law_heard" = some (.ref fH)) (E2 : TE60 K mg CL CS CE)
    (mi : mg "isinstance" = none) (mlen : mg "len" = none) (mtup : mg "tuple" = none) (mrange : mg "range" = none) :
    FnG P w K mg base (k + 3) f fd ["tagger", "label"] (spPartsRight T1 T2) := by
  obtain ⟨ocH, odH, kVH, docH, pmH, anH, cdH, ctH, oslH, rfl, lkH, hcdH⟩ := FH.ex
  refine fn_gC F hcode scPR (fun {vs H Q E} h => ?_) (fun A outer s H vs Q E hgd hr h => ?_)
  · obtain ⟨t, c0, A0, n, L, rfl, _⟩ := h
    rfl
  · obtain ⟨t, c0, A0, n, L, rfl, Tb, hn, hD, hA, hTabs, q⟩ := h
    have nd := scPR.nd
    have hk := hr.mono (show k ≤ k + 2 by omega)
    have hTm : (T2, nmP) ∈ Ts T1 T2 := List.mem_cons_of_mem _ List.mem_cons_self
    have hu : ∀ p ∈ Ts T1 T2, p.1 = T2 → p.2 = nmP := fun p hp e => by
      simp only [List.mem_cons, List.not_mem_nil, or_false] at hp
      rcases hp with rfl | rfl
      · exact absurd e hne
      · rfl
    refine ⟨_, pss_cons (ps_asg (pv 1) (pg_tup (by rfl) (pgs_cons (pg_name (i := 2) nd rfl (Or.inr rfl)) (pgs_cons (pg_name (i := 3) nd rfl (Or.inl rfl)) pgs_nil))))
      (pss_cons (ps_set (i := 4) nd rfl (.inr rfl) (pe_call GP hk (by rfl) gP FP.kp bP .nil pass0 (pa_cons (pv 0) (pa_cons (pe_lst
          (pa_cons pe_non (pa_cons pe_int (pa_cons (pe_tup (pa_cons pe_int (pa_cons pe_int pa_nil))) (pa_cons (pe_tup (pa_cons pe_int (pa_cons pe_int (pa_cons pe_int pa_nil))))
          (pa_cons (pe_tup (pa_cons (pe_un un_neg pe_int) (pa_cons pe_int (pa_cons pe_int pa_nil)))) (pa_cons (pe_tup (pa_cons pe_int (pa_cons (pe_un un_neg pe_int) (pa_cons pe_int pa_nil))))
          (pa_cons (pe_tup (pa_cons pe_int (pa_cons pe_bl (pa_cons pe_int pa_nil)))) (pa_cons (pe_tup (pa_cons pe_str (pa_cons pe_int (pa_cons pe_int pa_nil)))) (pa_cons (pe_tup (pa_cons pe_int (pa_cons pe_int (pa_cons pe_int (pa_cons pe_int pa_nil)))))
          (pa_cons (pe_tup (pa_cons pe_int (pa_cons pe_int (pa_cons pe_int pa_nil)))) (pa_cons (pe_tup (pa_cons pe_int (pa_cons pe_int (pa_cons pe_int pa_nil)))) (pa_cons pe_dnewK pa_nil))))))))))))) pa_nil))))
      (pss_cons (ps_set (i := 5) nd rfl (.inl rfl) (pe_lst (pa_cons pe_non (pa_cons pe_int (pa_cons (pe_lst pa_nil)
          (pa_cons (pe_ifExp (pt_cmpR op_gt (pe_callB call_len_seq (by rfl) mlen PySem.boot_len (pa_cons (pv 3) pa_nil)) pe_int (nomark _)) (pe_revT (pv 3)) (pe_lst pa_nil))
          (pa_cons (pe_op op_catA (pv 3) (pe_tup (pa_cons (pe_tup (pa_cons (pe_ix ix_tup (pe_ix ix_tup (pv 3) pe_int (fun _ _ => rfl)) pe_int (fun _ _ => rfl)) (pa_cons (pe_ix ix_tup (pe_ix ix_tup (pv 3) pe_int (fun _ _ => rfl)) pe_int (fun _ _ => rfl)) pa_nil))) pa_nil)))
          (pa_cons (pe_op op_catA (pv 3) (pe_op op_repT (pe_tup (pa_cons (pe_tup (pa_cons pe_int (pa_cons (pe_op op_mulS pe_str pe_int) pa_nil))) pa_nil)) pe_int))
          (pa_cons (pe_lst (pa_cons (pe_tup (pa_cons (pe_op op_add (pe_ix ix_tup (pv 2) pe_int (fun _ _ => rfl)) pe_int) (pa_cons (pe_op op_mulS pe_str pe_int) pa_nil))) pa_nil)) pa_nil)))))))))
      (pss_cons (ps_set (i := 5) nd rfl (.inl rfl) (pe_op op_cat (pv 5) (pe_lst
          (pa_cons (pe_op op_catA (pe_slice sl_tupA (pv 3) po_none (po_some pe_int)) (pe_callTy call_tuple_of (by rfl) mtup (by decide +kernel) (pa_cons
            (pe_lc (own := [("at", 8)]) (g := gName 8) (tt := tYes) (te := tTup (tCons (tOp (rI0 fun i j => .int (i + j)) (tVar 8) (tC (.int 30))) (tCons (tOp rMulS (tC (.str "0")) (tC (.int 9))) tNil))) rfl nd (pi_range1 (by rfl) mrange (pa_cons pe_int pa_nil)) (blkOk_by (N := nPR) (sc := defScope sLPartsRight) (by decide +kernel)) (fun _ _ _ _ _ => pg_name (i := 8) nd rfl (Or.inl rfl)) (fun _ _ _ _ _ => pts_nil)
              (fun _ _ _ _ _ => pe_tup (pa_cons (pe_op op_add (pv 8) pe_int) (pa_cons (pe_op op_mulS pe_str pe_int) pa_nil)))) pa_nil)))
          (pa_cons (pe_lst (pa_cons (pe_tup (pa_cons (pe_ix ix_tup (pv 2) pe_int (fun _ _ => rfl)) (pa_cons (pe_op op_mulS pe_str pe_int) pa_nil))) pa_nil))
          (pa_cons (pe_lst (pa_cons (pe_tup (pa_cons (pe_ix ix_tup (pv 2) pe_int (fun _ _ => rfl)) (pa_cons (pe_op op_mulS pe_str pe_int) pa_nil))) pa_nil))
          (pa_cons (pe_lst (pa_cons (pe_tup (pa_cons (pe_ix ix_tup (pv 2) pe_int (fun _ _ => rfl)) (pa_cons pe_int pa_nil))) pa_nil))
          (pa_cons (pe_lst (pa_cons (pe_lst (pa_cons (pe_ix ix_tup (pv 2) pe_int (fun _ _ => rfl)) pa_nil)) pa_nil)) pa_nil))))))))
      (pss_cons (ps_set (i := 6) nd rfl (.inl rfl) (pe_op op_add_str (pe_op op_add_str (pe_op op_mulS pe_str (pe_op op_add pe_int (pe_ix ix_tup (pv 2) pe_int (fun _ _ => rfl)))) pe_str) (pe_op op_mulS pe_str (pe_op op_sub pe_int (pe_ix ix_tup (pv 2) pe_int (fun _ _ => rfl))))))
      (pss_cons (ps_set (i := 7) nd rfl (.inr rfl) (pe_call GP hk (by rfl) gP FP.kp bP .nil pass0 (pa_cons (pv 0) (pa_cons (pe_op op_cat (pv 5) (pe_lst
          (pa_cons (pe_lst (pa_cons (pe_tup (pa_cons (pe_ix ix_tup (pv 2) pe_int (fun _ _ => rfl)) (pa_cons (pv 6) pa_nil))) pa_nil))
          (pa_cons (pe_lst (pa_cons (pe_tup (pa_cons (pe_ix ix_tup (pv 2) pe_int (fun _ _ => rfl)) (pa_cons (pe_op op_mulS pe_str pe_int) (pa_cons pe_int pa_nil)))) pa_nil))
          (pa_cons (pe_lst (pa_cons (pe_tup (pa_cons pe_bl (pa_cons (pe_op op_mulS pe_str pe_int) pa_nil))) pa_nil))
          (pa_cons (pe_lst (pa_cons (pe_tup (pa_cons (pe_ix ix_tup (pv 2) pe_int (fun _ _ => rfl)) (pa_cons (pe_op op_mulS pe_str pe_int) pa_nil))) (pa_cons (pe_tup (pa_cons pe_int (pa_cons (pe_op op_mulS pe_str pe_int) pa_nil))) pa_nil)))
          (pa_cons (pe_lst (pa_cons (pe_tup (pa_cons (pe_ix ix_tup (pv 2) pe_int (fun _ _ => rfl)) (pa_cons pe_str pa_nil))) pa_nil))
          (pa_cons pe_str (pa_cons (pe_disp (pps_cons pe_int (pe_op op_mulS pe_str pe_int) pps_nil) (by decide) (by decide) (by decide) (by decide)) pa_nil))))))))) pa_nil))))
      (pss_one (ps_ret (pe_cmpR (op_eqD hr.units) (pe_lst (pa_cons
          (pe_lamcall (k := k) (T := Ts T1 T2) (t := fun E => tCallS (spLabelText K CS CL) (fun _ => E) (tCons (tVar 4) (tCons (tVar 7) tNil))) (by rfl) gH FH.kp lkH hcdH bH scHeard rfl (Or.inl (by rfl)) (gives_heard mi E2.gL E2.gS E2.gE) TB rfl hTm hu hr (lamS_by (sc := defScope sLPartsRight) (by decide +kernel)) (by rfl) (fun _ _ _ _ _ => rfl)
            (fun A outer s H E f' c' hr2 => by exact (pe_callS GX hr2 (by rfl) gX FX.kp bX (fun σ => passAt (takes_of rfl rfl rfl rfl) σ) (pa_cons (pv 4) (pa_cons (pv 7) pa_nil))))) (pa_cons
          (pe_lamcallD (k := k) (x := "a1") (T := Ts T1 T2) (t := fun E => tCallS (spLabelText K CS CL) (fun _ => E) (tCons (tVar 2) (tCons (tVar 7) tNil))) (by rfl) gH FH.kp lkH hcdH bH scHeard rfl (Or.inl (by rfl)) (gives_heard mi E2.gL E2.gS E2.gE) TB rfl hTm hu hr (lamSD_by (sc := defScope sLPartsRight) (by decide +kernel)) ha1P rfl (fun _ _ _ _ _ _ _ => ⟨_, rfl, rfl⟩)
            (fun A outer s H E f' c' hr2 => by exact (pe_callS GX hr2 (by rfl) gX FX.kp bX (fun σ => passAt (takes_of rfl rfl rfl rfl) σ) (pa_cons (pv 2) (pa_cons (pv 7) pa_nil))))) pa_nil)))
          (pe_lst (pa_cons (pe_tup (pa_cons pe_str (pa_cons pe_str pa_nil))) (pa_cons (pe_tup (pa_cons pe_str (pa_cons pe_str pa_nil))) pa_nil))) (nomark _))))))))), ?_⟩
    obtain ⟨S, N, a1, a2, a3⟩ := hA
    have ok := hD.ok
    have hS := tup_strip Tb a2
    have hN := near_strip Tb a3
    have o0 : Od (Ts T1 T2) t c0 n H := ⟨hTabs, Tb⟩
    refine ⟨.ref A0, rfl, A0, _, rfl, Evl.st_of a1, rfl, _, _, rfl, _, _, rfl, rfl, ?_⟩
    show tSeq (tAsg (tCall (spPick K) [] E0 (tCons (tVar 0) (tCons teSeats tNil))) (gName 4)) _ _ _ _
    refine asg_go (call_raw (cons_any ⟨.ref t, rfl, cons_any (ew_seats (K := K) H _ (Evl.Ex.refl _) o0 fun v H1 e1 o1 w1 => ?_)⟩))
    obtain ⟨pl, vs, rfl, hp, hlen, hall⟩ := w1
    refine ⟨t, c0, pl, vs, n, rfl, o1.tub, by omega, (strip_le hp).1, Evl.sq_of (strip_ex _ _ hp), by omega, by omega, fun j nv H2 hj k2 T2' => ?_⟩
    have w2 := NoSeat.mono _ _ _ (sx_kept k2) (hall nv (List.mem_of_getElem? hj))
    have e2 : Evl.Ex (strip t H) (strip t H2) := e1.trans (sx_kept k2)
    have o2 := o1.kept k2 T2'
    clear hall hj hp e1 o1 k2
    have C2 : Ctx [some (.ref t), some (.ref A0), some (.ref S), some (.ref N), some nv, none, none, none, none] t H S N L := ⟨rfl, rfl, hS, hN, ok⟩
    refine asg_go (ew_bent1 (K := K) C2 H2 _ e2 o2 fun b1 H3 e3 o3 w3 => ?_)
    have e03 := e2.trans e3
    have C3 : Ctx [some (.ref t), some (.ref A0), some (.ref S), some (.ref N), some nv, some b1, none, none, none] t H3 S N L := ⟨rfl, rfl, e03 _ _ hS, hN.ex e03, ok⟩
    refine asg_go (ew_cat (m := 7) (k := 5) BadV.mono (by decide) (ew_v (fun G e o => Evl.ev_var rfl) fun G e => LstW.mono BadV.mono _ _ _ e w3) (ew_bent2 (K := K) C3 (fun _ => rfl) fun _ => rfl) H3 _ (Evl.Ex.refl _) o3 fun b2 H4 e4 o4 w4 => ?_)
    have e04 := e03.trans e4
    have C4 : Ctx [some (.ref t), some (.ref A0), some (.ref S), some (.ref N), some nv, some b2, none, none, none] t H4 S N L := ⟨rfl, rfl, e04 _ _ hS, hN.ex e04, ok⟩
    refine asg_go ((ev_own (K := K) C4 (Evl.Ex.refl _)) H4 (Evl.Ex.refl _) _ fun H5 e5 => ?_)
    have o5 := o4.ex e5
    have e05 := e04.trans (sx_ex (t := t) e5)
    have w5 := LstW.mono BadV.mono _ _ _ (sx_ex (t := t) e5) w4
    have C5 : Ctx [some (.ref t), some (.ref A0), some (.ref S), some (.ref N), some nv, some b2, some (.str (ownS L.n)), none, none] t H5 S N L := ⟨rfl, rfl, e05 _ _ hS, hN.ex e05, ok⟩
    refine asg_go (call_raw (cons_any ⟨.ref t, rfl, cons_any (ew_cat (m := 12) (k := 7) BadV.mono (by decide) (ew_v (fun G e o => Evl.ev_var rfl) fun G e => LstW.mono BadV.mono _ _ _ e w5) (ew_bent3 (K := K) C5 rfl) H5 _ (Evl.Ex.refl _) o5 fun v6 H6 e6 o6 w6 => ?_)⟩))
    obtain ⟨pl2, us, rfl, hp2, hlen2, hall2⟩ := w6
    refine ⟨t, c0, pl2, us, n + 1, rfl, o6.tub, by omega, (strip_le hp2).1, Evl.sq_of (strip_ex _ _ hp2), by omega, by omega, fun j2 bv H7 hj2 k7 T7' => ?_⟩
    have w7 := BadV.mono _ _ _ (sx_kept k7) (hall2 bv (List.mem_of_getElem? hj2))
    have o7 := o6.kept k7 T7'
    have e37 : Evl.Ex (strip t H3) (strip t H7) := ((e4.trans (sx_ex (t := t) e5)).trans e6).trans (sx_kept k7)
    have e07 : Evl.Ex (strip t H) (strip t H7) := e03.trans e37
    have u7 := NoSeat.mono _ _ _ (e3.trans e37) w2
    clear hall2 hj2 hp2 C2 C3 C4 C5 e03 e04 e05 e37 e2 e3 e4 e5 e6 o2 o3 o4 o5 o6 w2 w3 w4 w5 k7 hlen hlen2
    obtain ⟨ps, hT, _, _⟩ := o7.tabs (T2, nmP) hTm
    have e7B : Evl.Ex (strip t H7) (strip T2 H7) := fun a o h => strip_tb (t := T2) hT (strip_le h).2.1 (strip_le h).2.2
    have LV : Live (Ts T1 T2) (strip T2 H7) H7 := ⟨strip_ex, strip_nt, o7.tabs⟩
    have TB7 := tub_strip hT o7.tub
    have uB := NoSeat.mono _ _ _ e7B u7
    have wB := BadV.mono _ _ _ e7B w7
    have sB := e7B _ _ (e07 _ _ hS)
    have back : ∀ {H8 : Hp}, Evl.Ex (strip T2 H7) H8 → ∀ a o, a ≠ t → H a = some o → (∀ ps, o ≠ .tbl ps) → H8 a = some o := fun e a o h1 h2 h3 => e _ _ (e7B _ _ (e07 _ _ (strip_at h2 h1 h3)))
    clear u7 w7 e7B e07 hS hN o0 hT
    generalize strip T2 H7 = B at LV TB7 uB wB sB back
    obtain ⟨on, u1, u2⟩ := uB
    obtain ⟨ds, w1, w2⟩ := wB
    show tRet (tOp (rEqD K) (tLst (tCons (tLam (Ts T1 T2) (THeardS K CE (trH K CL CS)) fun E => tCallS (spLabelText K CS CL) (fun _ => E) (tCons (tVar 4) (tCons (tVar 7) tNil))) (tCons (tLam (Ts T1 T2) (THeardS K CE (trH K CL CS)) fun E => tCallS (spLabelText K CS CL) (fun _ => E) (tCons (tVar 2) (tCons (tVar 7) tNil))) tNil))) (tLst (tCons (tTup (tCons (tC (.str "seat")) (tCons (tC (.str "seat")) tNil))) (tCons (tTup (tCons (tC (.str "label")) (tCons (tC (.str "near")) tNil))) tNil)))) _ _ _
    refine ret_go (op_go (lst_go ?_))
    refine lam_raise (fs := [(("part" : Str), .str "seat")]) (vs := [.str "seat", .str "seat"]) LV E2.xS (fun G1 E Q' ex k => ⟨nv, rfl, bv, rfl, nv, bv, on, rfl, u1.ex ex, fun _ H2 d e2 hd => k H2 d e2 hd, fun p l n ho h1 h2 h3 => absurd ⟨p, l, n, ho, h1, h2, h3⟩ u2⟩) (fun G a d σ' D' h1 h2 h3 h4 k => rd_S E2 G a d σ' D' h1 h2 h4 k) fun p1 H8 L8 h8 f8 => ?_
    have x8 := Evl.Ex.new (H := B) (o := .tup [.str "seat", .str "seat"]) f8
    refine lam_raise (fs := [(("part" : Str), .str "near")]) (vs := [.str "label", .str "near"]) L8 E2.xL (fun G1 E Q' ex k => ⟨.ref S, rfl, bv, rfl, .ref S, bv, _, rfl, val_seat (ex _ _ (x8 _ _ sB)), fun hn => absurd ⟨L.p, L.l, L.n, rfl, ok.hn, ok.hp, ok.hl⟩ hn, fun p l n ho h1 h2 h3 => by
      obtain ⟨rfl, rfl, rfl⟩ := seat_eq ho
      exact ⟨ds, (w1.ex x8).ex ex, fun _ H2 d e2 hd => k H2 d e2 hd, fun near e hN => absurd ⟨near, e, hN⟩ w2⟩⟩) (fun G a d σ' D' h1 h2 h3 h4 k => rd_L E2 G a d σ' D' h1 h2 h4 k) fun p2 H9 L9 h9 f9 => ?_
    have x9 := Evl.Ex.new (o := .tup [.str "label", .str "near"]) f9
    refine ⟨by show 2 ≤ sizeLine; decide, fun h1 n1 => ?_⟩
    have eL := L9.ex
    have eN1 := Evl.Ex.new (o := .lst [.ref p1, .ref p2]) n1
    have z1 := eN1 _ _ (eL _ _ (x9 _ _ upd_same))
    have z2 := eN1 _ _ (eL _ _ upd_same)
    have eB : Evl.Ex B (upd H9 h1 (.lst [.ref p1, .ref p2])) := (x8.trans x9).trans (eL.trans eN1)
    have tB : Tabs (Ts T1 T2) (upd H9 h1 (.lst [.ref p1, .ref p2])) := L9.tabs.ext eN1
    have zh : upd H9 h1 (.lst [.ref p1, .ref p2]) h1 = some (.lst [.ref p1, .ref p2]) := upd_same
    generalize upd H9 h1 (.lst [.ref p1, .ref p2]) = H10 at z1 z2 eB tB zh
    refine cons_u eu_two fun d1 H14 _ e14 k1 => cons_u eu_two fun d2 H15 _ e15 k2 => ⟨by show 2 ≤ sizeLine; decide, fun dl nl => ?_⟩
    have eN := Evl.Ex.new (H := H15) (o := .lst [.ref d1, .ref d2]) nl
    have eT := (e14.trans e15).trans eN
    refine ⟨.list [.tuple [.str "seat", .str "seat"], .tuple [.str "label", .str "near"]], .list [.tuple [.str "seat", .str "seat"], .tuple [.str "label", .str "near"]], ?_, ?_, by decide +kernel, by decide +kernel, ?_⟩
    · exact .lst (Evl.sq_of (eT _ _ zh)) (.cons (.tup (Evl.st_of (eT _ _ z1)) (.cons (.str _) (.cons (.str _) .nil))) (.cons (.tup (Evl.st_of (eT _ _ z2)) (.cons (.str _) (.cons (.str _) .nil))) .nil))
    · exact .lst (Evl.sq_of upd_same) (.cons (.tup (Evl.st_of (eN _ _ (e15 _ _ k1))) (.cons (.str _) (.cons (.str _) .nil))) (.cons (.tup (Evl.st_of (eN _ _ k2)) (.cons (.str _) (.cons (.str _) .nil))) .nil))
    · rw [show PyData.eqv (.list [.tuple [.str "seat", .str "seat"], .tuple [.str "label", .str "near"]]) (.list [.tuple [.str "seat", .str "seat"], .tuple [.str "label", .str "near"]]) = true from by decide +kernel]
      exact q _ (back (eB.trans eT)) (TB7.ex (eB.trans eT)) (tB.ext eT)
end
end P60
end S_Kw
section S_Wy
namespace Hk
open PySem PySem.Spec PyProof.Rows L2 LamX Tl
/-! ### a call of a def that wants no repr under way -/
theorem pe_callG {X : Cx} {k : Nat} {f : Addr} {fd : FuncData} {ps : List Str} {sp : Sp} {E : XK} {x : Str} {p pos : Pos} {e : Expr} {es : List Expr} {t : TA} (F : FnG X.prog X.w X.K X.mg X.base k f fd ps sp) (hgd : X.A.guards = some []) (hr : Room k X.A) (hg : Gl X x) (hm : X.mg x = some (.ref f))
    (hk : PySem.W.keepIn X.K (.ref f) = true) (hb : Binds X.K fd ps []) (hx : Passes CX0 X E) (ha : PA X (e :: es) t) (hdb : (x == ("__debug__" : Str)) = false := by decide) (he : starEach (e :: es) X.env = (false, eval e X.env) :: starEach es X.env := by rfl)
    (hpl : (backTo pos (starEach es X.env)).any (·.1) = false := by rfl) : PE X (.Call (.Name x p) (e :: es) [] pos) (tCall sp [] E t) := by
  constructor
  intro pins s σ H Q I h
  refine wpAny_Call_Name_kw (ld_glob I hg hm (PySem.W.callWith_K (h₀ := X.base) I.ok.mod.kin hk (thn (ha.run pos pins s σ H _ I h) fun us s1 hv => ?_) he hpl) hdb)
  obtain ⟨vs, H1, I1, r, q⟩ := hv
  rw [List.append_nil] at q
  refine ⟨I1.kIn, wpAny_call (codeAny_mono (F.go hgd hr I1.env0 (by
    have := hb s1 us I1.kIn (by rw [List.append_nil, ← r.length]; exact F.len q)
    rwa [List.append_nil] at this) r q) fun z s' hq => ?_)⟩
  match z, hq with
  | .error e, hq => exact hx pins σ H1 s1 e s' I1 hq
  | .ok (.ret u), hq => exact I1.after hq
  | .ok .next, hq => exact hq.elim
  | .ok .brk, hq => exact hq.elim
  | .ok .cont, hq => exact hq.elim
theorem FnG.mono {P : Program} {w : World} {K : PySem.W.Frag} {mg : Str → Option Value} {base : Heap} {j k : Nat} {f : Addr} {fd : FuncData} {ps : List Str} {sp : Sp} (F : FnG P w K mg base j f fd ps sp) (h : j ≤ k) : FnG P w K mg base k f fd ps sp := ⟨F.len, fun a b c d e g => F.go a (b.mono h) c d e g⟩
theorem addr_snoc {as : List Addr} {p : Addr} {i : Nat} {a : Addr} (h : (as ++ [p])[i]? = some a) : (i < as.length ∧ as[i]? = some a) ∨ (i = as.length ∧ p = a) := by
  rcases Nat.lt_or_ge i as.length with z | z
  · rw [List.getElem?_append_left z] at h
    exact .inl ⟨z, h⟩
  · rw [List.getElem?_append_right z] at h
    rcases Nat.lt_or_ge (i - as.length) 1 with y | y
    · have e : i - as.length = 0 := by omega
      rw [e] at h
      cases h
      exact .inr ⟨by omega, rfl⟩
    · rw [List.getElem?_eq_none (by rw [List.length_singleton]; exact y)] at h
      cases h
section
open Evl
variable {K : PySem.W.Frag} {σ : L2.St} {H : Hp}
/-- a comprehension whose items are new objects, one each -/
theorem go_lcN {wi : TI} {g : TG} {te : TE} {vs : List Nat} {n : Nat} {Y : Nat → Hp → V → Hp → Prop} {s : Nat → L2.St → L2.St} {o : Nat → HO} (hw : EvI wi σ H n Y) (aim : Aims g n Y s) (hs : ∀ i, wipe (s i (wipe σ vs)) vs = wipe σ vs) (hn : n ≤ 90000)
    (he : ∀ i, i < n → ∀ H1, Ex H H1 → ∀ Q : VK, (∀ p H2, H1 p = none → Ex H1 H2 → H2 p = some (o i) → Q (.ref p) H2) → te (s i (wipe σ vs)) H1 Q) (H1 : Hp) (e : Ex H H1) (Q : VK)
    (q : ∀ (D : Addr) (as : List Addr) (H2 : Hp), H1 D = none → Ex H1 H2 → H2 D = some (.lst (as.map V.ref)) → as.length = n → (∀ (i : Nat) (a : Addr), as[i]? = some a → H2 a = some (o i)) → Q (.ref D) H2) :
    tLc wi g tYes te vs σ H1 Q :=
  hw H1 e _ fun J G H2 e2 w sG D hD => lc_it w (fun i H' => Ex H2 H' ∧ ∃ as : List Addr, H' D = some (.lst (as.map V.ref)) ∧ as.length = i ∧ (∀ (k : Nat) (a : Addr), as[k]? = some a → H1 a = none ∧ H' a = some (o k) ∧ a ≠ D))
    ⟨Ex.new hD, [], upd_same, rfl, fun i v h => by simp at h⟩ (fun i H' _ p => sG H' ((e.trans e2).trans p.1) fun a o _ ha => p.1 _ _ ha)
    (fun i x A B hi p y => by
      obtain ⟨p1, as, p3, p4, p5⟩ := p
      obtain ⟨ab, k⟩ := aim i (wipe σ vs) A x B hi y
      refine k _ ⟨hs i, ?_⟩
      show te (s i (wipe σ vs)) B _
      refine he i hi B (((e.trans e2).trans p1).trans ab) _ fun p C hp eC hC => ⟨as.map V.ref, eC _ _ (ab _ _ p3), sz_lt (by rw [List.length_map]; omega), ((p1.trans ab).trans eC).mut hD, as ++ [p], ?_, by rw [List.length_append, p4] <;> rfl, fun j a ha => ?_⟩
      · rw [upd_same, List.map_append]
        rfl
      · rcases addr_snoc ha with ⟨_, ha⟩ | ⟨rfl, rfl⟩
        · obtain ⟨q1, q2, q3⟩ := p5 j a ha
          exact ⟨q1, by rw [upd_ne q3]; exact eC _ _ (ab _ _ q2), q3⟩
        · have pD : p ≠ D := fun z => by rw [z, ab _ _ p3] at hp; cases hp
          exact ⟨fresh_back ((e2.trans p1).trans ab) hp, by rw [upd_ne pD, p4]; exact hC, pD⟩)
    (fun H' p => by
      obtain ⟨p1, as, p3, p4, p5⟩ := p
      exact q D as H' (fresh_back e2 hD) (e2.trans p1) p3 p4 fun i a ha => (p5 i a ha).2.1)
end
end Hk
end S_Wy
section S_KB
namespace P60
open PySem PySem.Spec PyProof.Rows L2 Tl Hk LamX
theorem sx_extN {t : Addr} {H H' : Hp} (e : ExtN H H') : Evl.Ex (strip t H) (strip t H') := fun a o h => by
  obtain ⟨h1, h2, h3⟩ := strip_le h
  exact strip_at (e a o h2 h3) h1 h3
theorem sx_but {t : Addr} {H H' : Hp} (k : ∀ a o, a ≠ t → H a = some o → (∀ ps, o ≠ .tbl ps) → H' a = some o) : Evl.Ex (strip t H) (strip t H') := fun a o h => by
  obtain ⟨h1, h2, h3⟩ := strip_le h
  exact strip_at (k a o h1 h2 h3) h1 h3
theorem Od.extN {T : List (Addr × Str)} {t c : Addr} {n : Nat} {H H' : Hp} (o : Od T t c n H) (e : ExtN H H') (tT : Tabs T H') : Od T t c n H' := ⟨tT, by
  obtain ⟨cs, turn, rest, h1, h2, h3⟩ := o.tub
  exact ⟨cs, turn, rest, e _ _ h1 (fun ps z => nomatch z), e _ _ h2 (fun ps z => nomatch z), h3⟩⟩
theorem Od.mono {T : List (Addr × Str)} {t c : Addr} {n m : Nat} {H : Hp} (o : Od T t c n H) (h : n ≤ m) : Od T t c m H := ⟨o.tabs, o.tub.mono h⟩
theorem lab_strip {H : Hp} {t c A : Addr} {n : Nat} {L : Lb} (T : Tub H t c n) (h : LabAt H A L) : LabAt (strip t H) A L := by
  obtain ⟨S, N, a1, a2, a3⟩ := h
  exact ⟨S, N, tup_strip T a1, tup_strip T a2, near_strip T a3⟩
theorem tx_its {K : PySem.W.Frag} {H : Hp} {its : List Str} (h : Its its) : ∃ r, TxV K H (.str (txt its)) r := by
  by_cases z : ∃ L, RdP its L
  · obtain ⟨L, hL⟩ := z
    exact ⟨_, .yes h hL⟩
  · exact ⟨_, .bad h fun L hL => z ⟨L, hL⟩⟩
theorem tx_nil {K : PySem.W.Frag} {H : Hp} : ∃ r, TxV K H (.str "") r := by
  have : Its [("" : Str)] := ⟨by decide, by decide, fun s hs => by
    have : ∀ s ∈ [("" : Str)], s ∈ base0 := by decide +kernel
    exact .inl (this s hs)⟩
  have h := tx_its (K := K) (H := H) this
  rwa [show txt [("" : Str)] = "" by decide +kernel] at h
/-- rows of pieces, each a list -/
def RowsL (H : Hp) (rs : List Addr) (near : List (Nat × List Bool)) : Prop := rs.length = near.length ∧ ∀ (i : Nat) (r : Addr) (q : Nat × List Bool), rs[i]? = some r → near[i]? = some q → H r = some (.lst [.int (q.1 : Int), .str (sS q.2)])
theorem RowsL.ex {H H' : Hp} {rs : List Addr} {near : List (Nat × List Bool)} (h : RowsL H rs near) (e : Evl.Ex H H') : RowsL H' rs near := ⟨h.1, fun i r q a b => e _ _ (h.2 i r q a b)⟩
def llD (near : List (Nat × List Bool)) : PyData := .list (near.map fun q => .list [.int (q.1 : Int), .str (sS q.2)])
theorem dpa_rowsL {K : PySem.W.Frag} {H : Hp} : ∀ {rs : List Addr} {near : List (Nat × List Bool)}, RowsL H rs near → DpAll K H (rs.map V.ref) (near.map fun q => .list [.int (q.1 : Int), .str (sS q.2)])
  | [], [], _ => .nil
  | r :: rs, q :: near, h => .cons (.lst (Evl.sq_of (h.2 0 r q rfl rfl)) (.cons (.int _) (.cons (.str _) .nil))) (dpa_rowsL ⟨Nat.succ.inj h.1, fun i r' q' a b => h.2 (i + 1) r' q' a b⟩)
  | [], _ :: _, h => nomatch h.1
  | _ :: _, [], h => nomatch h.1
theorem dp_LL {K : PySem.W.Frag} {H : Hp} {D : Addr} {rs : List Addr} {near : List (Nat × List Bool)} (hD : H D = some (.lst (rs.map V.ref))) (h : RowsL H rs near) : Dp K H (.ref D) (llD near) := .lst (Evl.sq_of hD) (dpa_rowsL h)
theorem llD_each {near : List (Nat × List Bool)} (h9 : ∀ q ∈ near, q.2.length = 9) : ∀ d ∈ near.map fun q => PyData.list [.int (q.1 : Int), .str (sS q.2)], d.canLay0 = true ∧ d.depth ≤ 5 := fun d hd => by
  obtain ⟨q, hq, rfl⟩ := List.mem_map.mp hd
  have ok : PyData.strOk (sS q.2) = true := (Item.all (.inr ⟨q.2, h9 q hq, rfl⟩)).2.2.2.2.2.2.1
  refine ⟨?_, ?_⟩
  · unfold PyData.canLay0
    refine lay_all fun d hd => ?_
    simp only [List.mem_cons, List.not_mem_nil, or_false] at hd
    rcases hd with rfl | rfl
    · rfl
    · unfold PyData.canLay0
      exact ok
  · show PyData.depthAll [.int (q.1 : Int), .str (sS q.2)] + 1 ≤ 5
    have := deep_all (c := 0) (ds := [.int (q.1 : Int), .str (sS q.2)]) fun d hd => by
      simp only [List.mem_cons, List.not_mem_nil, or_false] at hd
      rcases hd with rfl | rfl <;> exact Nat.zero_le _
    omega
theorem llD_ok {near : List (Nat × List Bool)} (h9 : ∀ q ∈ near, q.2.length = 9) : SeqAt.shaped (llD near) = true ∧ PyData.eqv (llD near) (llD near) = true := by
  refine ⟨shaped_list (c := 5) (by decide) (llD_each h9), SeqAt.eqv_refl _ ?_⟩
  unfold llD PyData.canLay0
  exact lay_all fun d hd => (llD_each h9 d hd).1
theorem ty_rowsL {K : PySem.W.Frag} {H : Hp} {rs : List Addr} {near : List (Nat × List Bool)} (h : RowsL H rs near) : ∀ v ∈ rs.map V.ref, ∃ n, Ty7 K H v n := fun v hv => by
  obtain ⟨r, hr, rfl⟩ := List.mem_map.mp hv
  obtain ⟨i, hi⟩ := List.getElem?_of_mem hr
  obtain ⟨hi', e⟩ := List.getElem?_eq_some_iff.mp hi
  have hn : i < near.length := by rw [← h.1]; exact hi'
  exact ⟨_, .lst (Evl.sq_of (h.2 i r near[i] hi (List.getElem?_eq_getElem hn)))⟩
theorem dv_LL {K : PySem.W.Frag} {H : Hp} {D : Addr} {rs : List Addr} {near : List (Nat × List Bool)} (hD : H D = some (.lst (rs.map V.ref))) (h : RowsL H rs near) (hl : near.length ≤ 100) (h9 : ∀ q ∈ near, q.2.length = 9) : DV K H (.ref D) (some (near.map pieceIs)) := by
  refine ⟨rs.map V.ref, .lst (Evl.sq_of hD) (by rw [List.length_map, h.1]; omega) (ty_rowsL h), by rw [List.length_map, List.length_map, h.1], fun i v d hv hd => ?_⟩
  rw [List.getElem?_map] at hv hd
  obtain ⟨r, hr, rfl⟩ := Option.map_eq_some_iff.mp hv
  obtain ⟨q, hq, rfl⟩ := Option.map_eq_some_iff.mp hd
  exact ⟨val_pairL (h.2 i r q hr hq), short_piece (h9 q (List.mem_of_getElem? hq))⟩
abbrev teLL (K : PySem.W.Frag) : TE := tLc (iTup K (tVar 5)) (gName 9) tYes (tCB (Evl.rListS K) (tCons (tVar 9) tNil)) [9]
/-- [list(pair) for pair in near] -/
theorem go_LL {K : PySem.W.Frag} {σ : L2.St} {H : Hp} {Q : VK} {N : Addr} {near : List (Nat × List Bool)} (h5 : σ[5]? = some (some (.ref N))) (hN : NearAt H N near) (hl : near.length ≤ 100) (hw : ∀ x, wipe ((wipe σ [9]).set 9 x) [9] = wipe σ [9]) (hj : ∀ x, ((wipe σ [9]).set 9 (some x))[9]? = some (some x))
    (q : ∀ D as H2, H D = none → Evl.Ex H H2 → H2 D = some (.lst (as.map V.ref)) → RowsL H2 as near → Q (.ref D) H2) : teLL K σ H Q := by
  obtain ⟨rs, h1, h2⟩ := hN
  have lr := rows_refs h2
  refine go_lcN (o := fun i => .lst [.int ((near.getD i (0, [])).1 : Int), .str (sS (near.getD i (0, [])).2)]) (ei_tup (Evl.ev_var h5) (Evl.st_of h1)) (aims_at (j := 9)) (fun _ => hw _) (by omega) (fun i hi H1 e1 Q1 q1 => ?_) H (Evl.Ex.refl _) Q fun D as H2 hD e2 h4 l4 h6 => q D as H2 hD e2 h4 ⟨by omega, fun i r q' a b => ?_⟩
  · have hi' : i < rs.length := by rw [List.length_map] at hi; exact hi
    have hn : i < near.length := by rw [← h2.1]; exact hi'
    have er : (rs.map V.ref).getD i .non = .ref rs[i] := by
      rw [List.getD_eq_getElem?_getD, List.getElem?_map, List.getElem?_eq_getElem hi']
      rfl
    have hr := h2.2 i rs[i] near[i] (List.getElem?_eq_getElem hi') (List.getElem?_eq_getElem hn)
    have hr : H rs[i] = some (.tup [.int (near[i].1 : Int), .str (sS near[i].2)]) := hr
    refine (el_listT (K := K) (p := rs[i]) (xs := [.int (near[i].1 : Int), .str (sS near[i].2)]) (Evl.ev_var (by rw [hj, er])) (Evl.st_of (e1 _ _ hr))) H1 (Evl.Ex.refl _) Q1 fun p H2 hp e2 h3 => q1 p H2 hp e2 ?_
    rw [h3, List.getD_eq_getElem?_getD, List.getElem?_eq_getElem hn]
    rfl
  · rw [h6 i r a, List.getD_eq_getElem?_getD, b]
    rfl
/-- what the law asks of besides -/
abbrev teMisc : TE := tLst (tCons (tC .non) (tCons (tN 5) (tCons (tLst (tCons (tVar 7) tNil)) (tCons (tC (.bl true)) (tCons tDNewK (tCons (tVar 3) (tCons (tC (.str "")) tNil)))))))
theorem ew_misc {K : PySem.W.Frag} {T : List (Addr × Str)} {t c A : Addr} {n : Nat} {σ : L2.St} {H0 : Hp} {L : Lb} {x : V} (h3 : σ[3]? = some (some (.ref A))) (h7 : σ[7]? = some (some x)) (hA : LabAt (strip t H0) A L) : EvW T t c n teMisc σ H0 (LstW 7 fun B v => ∃ r, TxV K B v r) := by
  have m : Mono (fun B v => ∃ r, TxV K B v r) := fun B B1 v e ⟨r, h⟩ => ⟨r, h.ex e⟩
  refine ew_all m (by decide) (all_cons m ?_ (all_cons m ?_ (all_cons m ?_ (all_cons m ?_ (all_cons m ?_ (all_cons m ?_ (all_cons m ?_ all_nil)))))))
  · exact ew_c fun H e => ⟨_, .no .non rfl⟩
  · exact ew_c fun H e => ⟨_, .no (.int 5) rfl⟩
  · exact ew_l (xs := [x]) (fun H e o => Evl.el_lst (Evl.ea_cons (Evl.ev_var h7) Evl.ea_nil) (by show 1 ≤ 100000; decide)) fun H p e h => ⟨_, .no (.lst (Evl.sq_of h)) rfl⟩
  · exact ew_c fun H e => ⟨_, .no (.bl true) rfl⟩
  · exact ew_dnew fun H p h => ⟨_, .no (.dK h) rfl⟩
  · refine ew_v (fun H e o => Evl.ev_var h3) fun H e => ?_
    obtain ⟨S, N, a1, _⟩ := hA.ex e
    exact ⟨_, .no (.tup (Evl.st_of a1)) rfl⟩
  · exact ew_c fun H e => tx_nil
end P60
end S_KB
section S_KA
namespace P60
open PySem PySem.Spec PyProof.Rows L2 Tl Hk LamX
abbrev nLaw : List Str := ["script", "tagger", "turn", "label", "seat", "near", "passed", "text", "bend", "pair"]
theorem scLaw : FnScope nLaw ["script"] (defScope sLaw) := ⟨rfl, rfl, rfl, by decide +kernel, rfl, by decide +kernel, by decide +kernel⟩
def swap2 {α : Type} : List α → List α → List α
  | _, [a, b] => [b, a]
  | _, _ => []
def spLaw (K : PySem.W.Frag) (T1 T2 : Addr) : Sp := fun vs H Q _ => ∃ (a : Addr) (ns : List Int), vs = [.ref a] ∧ SqL K H a (ns.map V.int) ∧ ns.length ≤ 63 ∧ Tabs (Ts T1 T2) H ∧ ∀ H', Q (.bl true) H'
theorem ev_labelK {K : PySem.W.Frag} {CS CL : Addr} {σ : L2.St} {H : Hp} {D S : Addr} {rs : List Addr} {L : Lb} (h6 : σ[6]? = some (some (.ref D))) (h4 : σ[4]? = some (some (.ref S))) (hS : H S = some (.tup (seatL L.p L.l L.n))) (hD : H D = some (.lst (rs.map V.ref))) (r : RowsL H rs L.near) (ok : L.Ok) :
    Evl.Ev (tCallN 0 2 (spLabelText K CS CL) swap2 E0 tNil (tCons (tVar 6) (tCons (tCB (Evl.rListS K) (tCons (tVar 4) tNil)) tNil))) σ H (.str (txt (items L))) := fun G e Q' q' =>
  ⟨.ref D, h6, (el_listT (K := K) (Evl.ev_var h4) (Evl.st_of (e _ _ hS))) G (Evl.Ex.refl _) _ fun p G2 hp e2 h2 => ⟨rfl, rfl, (spv_labelText (CS := CS) (CL := CL) ok (.lst (Evl.sq_of h2) (by show 3 ≤ 4000; decide) fun v hv => by
    simp only [List.mem_cons, List.not_mem_nil, or_false] at hv
    rcases hv with rfl | rfl | rfl <;> exact ⟨_, .int _⟩) (dv_LL ((e.trans e2) _ _ hD) (r.ex (e.trans e2)) (by have := ok.near.len; omega) ok.nine)) G2 (Evl.Ex.refl _) Q' (fun G3 e3 => q' G3 (e2.trans e3)) E0⟩⟩
theorem et_LL {K : PySem.W.Frag} {σ : L2.St} {H : Hp} {D N : Addr} {rs : List Addr} {near : List (Nat × List Bool)} (h6 : σ[6]? = some (some (.ref D))) (h5 : σ[5]? = some (some (.ref N))) (hN : NearAt H N near) (hD : H D = some (.lst (rs.map V.ref))) (r : RowsL H rs near) (hl : near.length ≤ 100) (h9 : ∀ q ∈ near, q.2.length = 9)
    (hw : ∀ x, wipe ((wipe σ [9]).set 9 x) [9] = wipe σ [9]) (hj : ∀ x, ((wipe σ [9]).set 9 (some x))[9]? = some (some x)) : Evl.EvT (tTest (tOp (rNeD K) (tVar 6) (teLL K))) σ H false := fun G e Q' q' =>
  ⟨.ref D, h6, go_LL (K := K) h5 (hN.ex e) hl hw hj fun D2 as G2 hD2 e2 h2 r2 => ⟨llD near, llD near, dp_LL ((e.trans e2) _ _ hD) (r.ex (e.trans e2)), dp_LL h2 r2, (llD_ok h9).1, (llD_ok h9).1, by
    rw [(llD_ok h9).2]
    exact ⟨false, rfl, q' G2 e2⟩⟩⟩
section
variable {P : Program} {w : World} {K : PySem.W.Frag} {mg : Str → Option Value} {base : Heap}
set_option maxHeartbeats 4000000 in
theorem ok_law {f fT fL fX fE fTR fB fPR fP CS CL T1 T2 : Addr} {fd fdT fdL fdX fdE fdTR fdB fdPR fdP : FuncData} {k : Nat} (F : Fun K "law" "law" sLaw f fd)
    (FT : Fun K "_law_tagger" "_law_tagger" sTub fT fdT) (GT : FnOk P w K mg base CX0 k fT fdT ["script"] (spTub K)) (bT : Binds K fdT ["script"] []) (gT : mg "_law_tagger" = some (.ref fT))
    (FL : Fun K "_law_label" "_law_label" sLLabel fL fdL) (GL : FnOk P w K mg base CX0 k fL fdL ["tagger"] spLabel) (bL : Binds K fdL ["tagger"] []) (gL : mg "_law_label" = some (.ref fL))
    (FX : Fun K "_law_text" "_law_text" sLText fX fdX) (GX : FnOk P w K mg base CX0 k fX fdX ["label"] spLText) (bX : Binds K fdX ["label"] []) (gX : mg "_law_text" = some (.ref fX))
    (FE : Fun K "label_text" "label_text" sLabelText fE fdE) (GE : FnOk P w K mg base (L2.CX P w) k fE fdE ["seat", "near"] (spLabelText K CS CL)) (kE : KBn K fdE ["seat", "near"] 0 ["near", "seat"] swap2 swap2) (gE : mg "label_text" = some (.ref fE))
    (FTR : Fun K "_law_text_right" "_law_text_right" sLTextRight fTR fdTR) (GTR : FnG P w K mg base k fTR fdTR ["value"] (spTextRight K T1 T2)) (bTR : Binds K fdTR ["value"] []) (gTR : mg "_law_text_right" = some (.ref fTR))
    (FB : Fun K "_law_bent" "_law_bent" sLBent fB fdB) (GB : FnOk P w K mg base CX0 k fB fdB ["tagger", "label"] spBent) (bB : Binds K fdB ["tagger", "label"] []) (gB : mg "_law_bent" = some (.ref fB))
    (FPR : Fun K "_law_parts_right" "_law_parts_right" sLPartsRight fPR fdPR) (GPR : FnG P w K mg base k fPR fdPR ["tagger", "label"] (spPartsRight T1 T2)) (bPR : Binds K fdPR ["tagger", "label"] []) (gPR : mg "_law_parts_right" = some (.ref fPR))
    (FP : Fun K "_law_one_of" "_law_one_of" sPick fP fdP) (GP : FnOk P w K mg base CX0 k fP fdP ["tagger", "some"] (spPick K)) (bP : Binds K fdP ["tagger", "some"] []) (gP : mg "_law_one_of" = some (.ref fP))
    (mlist : mg "list" = none) (mrange : mg "range" = none) :
    FnG P w K mg base (k + 1) f fd ["script"] (spLaw K T1 T2) := by
  refine fn_g F scLaw (fun {vs H Q E} h => ?_) (fun cdv A outer s H vs Q E hgd hr h => ?_)
  · obtain ⟨a, ns, rfl, _⟩ := h
    rfl
  · obtain ⟨a, ns, rfl, hS, hl, hTabs, q⟩ := h
    have nd := scLaw.nd
    refine ⟨_, pss_cons (ps_set (i := 1) nd rfl (.inl rfl) (pe_call GT hr (by rfl) gT FT.kp bT .nil pass0 (pa_cons (pv 0) pa_nil)))
      (pss_cons (ps_for PassesOwn.never rfl (pi_range1 (by rfl) mrange (pa_cons pe_int pa_nil)) (pg_name (i := 2) nd rfl (.inl rfl))
        (pss_cons (ps_set (i := 3) nd rfl (.inl rfl) (pe_call GL hr (by rfl) gL FL.kp bL .nil pass0 (pa_cons (pv 1) pa_nil)))
        (pss_cons (ps_asg (pv 3) (pg_tup (by rfl) (pgs_cons (pg_name (i := 4) nd rfl (Or.inl rfl)) (pgs_cons (pg_name (i := 5) nd rfl (Or.inl rfl)) pgs_nil))))
        (pss_cons (ps_par (i := 6) (j := 7) (by rfl) nd rfl rfl (by decide) rfl rfl (pa_cons (pe_lc (own := [("pair", 9)]) (g := gName 9) (tt := tYes) (te := tCB (Evl.rListS K) (tCons (tVar 9) tNil)) rfl nd (pi_tup (pv 5)) (blkOk_by (N := nLaw) (sc := defScope sLaw) (by decide +kernel)) (fun _ _ _ _ _ => pg_name (i := 9) nd rfl (Or.inl rfl)) (fun _ _ _ _ _ => pts_nil)
            (fun _ _ _ _ _ => pe_callTy call_list_of (by rfl) mlist (by decide +kernel) (pa_cons (pv 9) pa_nil))) (pa_cons (pe_call GX hr (by rfl) gX FX.kp bX .nil pass0 (pa_cons (pv 3) pa_nil)) pa_nil)) (by rfl))
        (pss_cons (ps_if (PW.pt (pw_or (pt_cmpR op_ne (pe_callN0 GE hr (by rfl) gE FE.kp kE passF (pk_cons (pv 6) (pk_cons (pe_callTy call_list_of (by rfl) mlist (by decide +kernel) (pa_cons (pv 4) pa_nil)) pk_nil))) (pv 7) (nomark _))
            (pw_or (pt_cmpR (op_neD hr.units) (pv 6) (pe_lc (own := [("pair", 9)]) (g := gName 9) (tt := tYes) (te := tCB (Evl.rListS K) (tCons (tVar 9) tNil)) rfl nd (pi_tup (pv 5)) (blkOk_by (N := nLaw) (sc := defScope sLaw) (by decide +kernel)) (fun _ _ _ _ _ => pg_name (i := 9) nd rfl (Or.inl rfl)) (fun _ _ _ _ _ => pts_nil)
              (fun _ _ _ _ _ => pe_callTy call_list_of (by rfl) mlist (by decide +kernel) (pa_cons (pv 9) pa_nil))) (nomark _))
            (pw_or1 (pt_not (pt_val (pe_callG GTR hgd hr (by rfl) gTR FTR.kp bTR pass0 (pa_cons (pv 7) pa_nil)))))))) (pss_one (ps_ret pe_bl)) pss_nil)
        (pss_cons (ps_for PassesOwn.never rfl (pi_range1 (by rfl) mrange (pa_cons pe_int pa_nil)) (pg_name (i := 8) nd rfl (.inl rfl))
          (pss_one (ps_if (pt_not (pt_val (pe_callG GTR hgd hr (by rfl) gTR FTR.kp bTR pass0 (pa_cons (pe_call GB hr (by rfl) gB FB.kp bB .nil pass0 (pa_cons (pv 1) (pa_cons (pv 3) pa_nil))) pa_nil)))) (pss_one (ps_ret pe_bl)) pss_nil)))
        (pss_one (ps_if (PW.pt (pw_or (pt_not (pt_val (pe_callG GPR hgd hr (by rfl) gPR FPR.kp bPR pass0 (pa_cons (pv 1) (pa_cons (pv 3) pa_nil)))))
            (pw_or1 (pt_not (pt_val (pe_callG GTR hgd hr (by rfl) gTR FTR.kp bTR pass0 (pa_cons (pe_call GP hr (by rfl) gP FP.kp bP .nil pass0 (pa_cons (pv 1) (pa_cons (pe_lst (pa_cons pe_non (pa_cons pe_int (pa_cons (pe_lst (pa_cons (pv 7) pa_nil)) (pa_cons pe_bl (pa_cons pe_dnewK (pa_cons (pv 3) (pa_cons pe_str pa_nil)))))))) pa_nil))) pa_nil))))))) (pss_one (ps_ret pe_bl)) pss_nil))))))))
      (pss_one (ps_ret pe_bl))), ?_⟩
    refine ⟨.ref a, rfl, a, ns, rfl, hS, by omega, fun t c H1 ht hc sm T0 => ?_⟩
    have o1 : Od (Ts T1 T2) t c 0 H1 := ⟨hTabs.ext sm, T0⟩
    refine Evl.q_forR1 (n := 3) (Evl.ea_cons Evl.ev_c Evl.ea_nil) ⟨by decide, by decide⟩ (fun i σ' H' => ∃ y2 y3 y4 y5 y6 y7 y8 y9, σ' = [some (.ref a), some (.ref t), y2, y3, y4, y5, y6, y7, y8, y9] ∧ Od (Ts T1 T2) t c (200 * i) H')
      (fun H2 e2 => ⟨none, none, none, none, none, none, none, none, rfl, (o1.ex e2).mono (by omega)⟩) ?_ ?_
    · rintro i σ' H2 hi ⟨y2, y3, y4, y5, y6, y7, y8, y9, rfl, o2⟩
      have hi3 : i < 3 := by omega
      refine asg_go (call_go (Evl.ea_cons (Evl.ev_var rfl) Evl.ea_nil) fun G2 g2 => ⟨t, c, 200 * i, rfl, o2.tub.ex g2, by omega, fun A L H3 hD hA k3 T3 => ?_⟩)
      have o3 := (o2.ex g2).kept k3 T3
      obtain ⟨S, N, a1, a2, a3⟩ := id hA
      have ok := hD.ok
      have l4 := ok.near.len
      have h9 := ok.nine
      refine ⟨.ref A, rfl, A, _, rfl, Evl.st_of a1, rfl, _, _, rfl, _, _, rfl, rfl, ?_⟩
      refine par_go (cons_any (go_LL (K := K) rfl a3 (by omega) (fun _ => rfl) (fun _ => rfl) fun D as H4 hD4 e4 h4 r4 => cons_any ((Evl.ev_call (Evl.ea_cons (Evl.ev_var rfl) Evl.ea_nil) (spv_lText ok (hA.ex e4))) H4 (Evl.Ex.refl _) _ fun H5 e5 => ⟨_, _, rfl, ?_⟩)))
      have e35 := e4.trans e5
      have hD5 := e5 _ _ h4
      have r5 := r4.ex e5
      have b2 := e35 _ _ a2
      have b3 := a3.ex e35
      refine (et_neStr (ev_labelK (CS := CS) (CL := CL) rfl rfl b2 hD5 r5 ok) (Evl.ev_var rfl)) H5 (Evl.Ex.refl _) _ fun H6 e6 => if_go (fun z => nomatch z) fun _ => ?_
      refine (et_LL (K := K) rfl rfl (b3.ex e6) (e6 _ _ hD5) (r5.ex e6) (by omega) h9 (fun _ => rfl) (fun _ => rfl)) H6 (Evl.Ex.refl _) _ fun H7 e7 => if_go (fun z => nomatch z) fun _ => ?_
      have e37 := (e35.trans e6).trans e7
      have o7 := o3.ex e37
      have hA7 := hA.ex e37
      clear hD5 r5 b2 b3 e35 e4 e5 h4 r4 hD4 a1 a2 a3 o2 g2 k3 T3 o3 hA e6 e7 e37
      refine call_go (sp := spTextRight K T1 T2) (Evl.ea_cons (Evl.ev_var rfl) Evl.ea_nil) fun G8 g8 => ⟨.str (txt (items L)), some L, rfl, .yes hD.its ⟨ok, rfl⟩, o7.tabs.ext g8, fun H8 x8 t8 => ⟨true, rfl, if_go (fun z => nomatch z) fun _ => ?_⟩⟩
      have o8 := (o7.ex g8).extN x8 t8
      have l8 := ((lab_strip o7.tub hA7).ex (sx_ex (t := t) g8)).ex (sx_extN (t := t) x8)
      clear x8 t8 g8 hA7 o7
      refine Evl.q_forR1 (n := 4) (Evl.ea_cons Evl.ev_c Evl.ea_nil) ⟨by decide, by decide⟩ (fun j σ' H' => ∃ y8 y9, σ' = [some (.ref a), some (.ref t), some (.int (i : Int)), some (.ref A), some (.ref S), some (.ref N), some (.ref D), some (.str (txt (items L))), y8, y9] ∧ Od (Ts T1 T2) t c (200 * i + 60 + 10 * j) H' ∧ LabAt (strip t H') A L)
        (fun H2 e2 => ⟨_, _, rfl, (o8.ex e2).mono (by omega), l8.ex (sx_ex e2)⟩) ?_ ?_
      · rintro j σ' H9 hj ⟨y8, y9, rfl, o9, l9⟩
        refine call_raw (cons_any (call_go (sp := spBent) (Evl.ea_cons (Evl.ev_var rfl) (Evl.ea_cons (Evl.ev_var rfl) Evl.ea_nil)) fun G10 g10 => ⟨t, c, A, 200 * i + 60 + 10 * j, L, rfl, o9.tub.ex g10, by omega, hD, (l9.ex (sx_ex (t := t) g10)).ex strip_ex, fun its H10 hI k10 T10 => ?_⟩))
        have o10 := (o9.ex g10).kept k10 T10
        obtain ⟨r, hr⟩ := tx_its (K := K) (H := H10) hI
        refine ⟨_, r, rfl, hr, o10.tabs, fun H11 x11 t11 => ⟨true, rfl, if_go (fun z => nomatch z) fun _ => ?_⟩⟩
        exact ⟨_, _, rfl, (o10.extN x11 t11).mono (by omega), ((l9.ex (sx_ex (t := t) g10)).ex (sx_kept k10)).ex (sx_extN x11)⟩
      · rintro σ' H9 ⟨y8, y9, rfl, o9, l9⟩
        have o9 := o9.mono (show 200 * i + 60 + 10 * (4 : Int).toNat ≤ 200 * i + 100 from by show 200 * i + 60 + 10 * 4 ≤ _; omega)
        refine call_go (sp := spPartsRight T1 T2) (Evl.ea_cons (Evl.ev_var rfl) (Evl.ea_cons (Evl.ev_var rfl) Evl.ea_nil)) fun G10 g10 => ⟨t, c, A, 200 * i + 100, L, rfl, o9.tub.ex g10, by omega, hD, (l9.ex (sx_ex (t := t) g10)).ex strip_ex, o9.tabs.ext g10, fun H10 k10 T10 t10 => ⟨true, rfl, if_go (fun z => nomatch z) fun _ => ?_⟩⟩
        have o10 : Od (Ts T1 T2) t c (200 * i + 100 + 2) H10 := ⟨t10, T10⟩
        have l10 := (l9.ex (sx_ex (t := t) g10)).ex (sx_but (t := t) k10)
        refine call_raw (cons_any (call_raw (cons_any ⟨.ref t, rfl, cons_any (ew_misc (K := K) rfl rfl l10 H10 _ (Evl.Ex.refl _) o10 fun v H11 e11 o11 w11 => ?_)⟩)))
        obtain ⟨pl, vs, rfl, hp, hlen, hall⟩ := w11
        refine ⟨t, c, pl, vs, 200 * i + 100 + 2, rfl, o11.tub, by omega, (strip_le hp).1, Evl.sq_of (strip_ex _ _ hp), by omega, by omega, fun jj v H12 hv k12 T12 => ?_⟩
        obtain ⟨r, hr⟩ := hall v (List.mem_of_getElem? hv)
        have o12 := o11.kept k12 T12
        refine ⟨v, r, rfl, (hr.ex (sx_kept k12)).ex strip_ex, o12.tabs, fun H13 x13 t13 => ⟨true, rfl, if_go (fun z => nomatch z) fun _ => ?_⟩⟩
        exact ⟨_, _, _, _, _, _, _, _, rfl, (o12.extN x13 t13).mono (by omega)⟩
    · rintro σ' H2 ⟨y2, y3, y4, y5, y6, y7, y8, y9, rfl, o2⟩
      exact q H2
end
end P60
end S_KA
section S_KC
namespace P60
open PySem PySem.Spec PyProof.Rows L2 Tl Hk LamX
theorem swap2_rel {vs zs : List V} {us ws : List Value} (r : Vals zs ws) : Vals (swap2 vs zs) (swap2 us ws) := by
  match zs, ws, r with
  | [], [], .nil => exact .nil
  | [_], [_], .cons _ .nil => exact .nil
  | [_, _], [_, _], .cons a (.cons b .nil) => exact .cons b (.cons a .nil)
  | _ :: _ :: _ :: _, _ :: _ :: _ :: _, .cons _ (.cons _ (.cons _ _)) => exact .nil
set_option maxHeartbeats 4000000 in
theorem all_mk {l : PySem.W.OpenLaw} {w : World} {K : PySem.W.Frag} {h : Heap} {mg : Str → Option Value} {qq : Program} {fa fIn fWi fLi fRo fNi fSe fIl fTo fLx fAr fLb fSy fWl fSm fNp fNe fSo fSp fWd fPk fNu fRd fSg fLl fTx fHe fBe fTr fPr fLa c1 T1 c2 T2 CS CL fLI CB fBI : Addr} (X : K.In h) (G : h.Ns mainGlobals mg) (hfa : mg "law" = some (.ref fa))
    {odIn anIn : Option Addr} {slIn : Array (Option Value)} {ocIn kVIn dcIn pmIn cdIn ctIn : Value}
    (aIn : PySem.W.nsIn K mainGlobals "is_integer" = some (some (.ref fIn)))
    (lIn : K.lookup fIn = some ⟨ocIn, odIn, .func (PySem.W.fnOf "is_integer" "is_integer" (defArgs sInteger) (defBody sInteger) (defScope sInteger) .none kVIn dcIn pmIn anIn cdIn ctIn), slIn⟩)
    (cIn : PySem.W.codeIn K cdIn "is_integer" = true)
    (kIn : PySem.W.keepIn K (.ref fIn) = true)
    {odWi anWi : Option Addr} {slWi : Array (Option Value)} {ocWi kVWi dcWi pmWi cdWi ctWi : Value}
    (aWi : PySem.W.nsIn K mainGlobals "is_within" = some (some (.ref fWi)))
    (lWi : K.lookup fWi = some ⟨ocWi, odWi, .func (PySem.W.fnOf "is_within" "is_within" (defArgs sWithin) (defBody sWithin) (defScope sWithin) .none kVWi dcWi pmWi anWi cdWi ctWi), slWi⟩)
    (cWi : PySem.W.codeIn K cdWi "is_within" = true)
    (kWi : PySem.W.keepIn K (.ref fWi) = true)
    {odLi anLi : Option Addr} {slLi : Array (Option Value)} {ocLi kVLi dcLi pmLi cdLi ctLi : Value}
    (aLi : PySem.W.nsIn K mainGlobals "is_list" = some (some (.ref fLi)))
    (lLi : K.lookup fLi = some ⟨ocLi, odLi, .func (PySem.W.fnOf "is_list" "is_list" (defArgs sList) (defBody sList) (defScope sList) .none kVLi dcLi pmLi anLi cdLi ctLi), slLi⟩)
    (cLi : PySem.W.codeIn K cdLi "is_list" = true)
    (kLi : PySem.W.keepIn K (.ref fLi) = true)
    {odRo anRo : Option Addr} {slRo : Array (Option Value)} {ocRo kVRo dcRo pmRo cdRo ctRo : Value}
    (aRo : PySem.W.nsIn K mainGlobals "is_row" = some (some (.ref fRo)))
    (lRo : K.lookup fRo = some ⟨ocRo, odRo, .func (PySem.W.fnOf "is_row" "is_row" (defArgs sRow) (defBody sRow) (defScope sRow) .none kVRo dcRo pmRo anRo cdRo ctRo), slRo⟩)
    (cRo : PySem.W.codeIn K cdRo "is_row" = true)
    (kRo : PySem.W.keepIn K (.ref fRo) = true)
    {odNi anNi : Option Addr} {slNi : Array (Option Value)} {ocNi kVNi dcNi pmNi cdNi ctNi : Value}
    (aNi : PySem.W.nsIn K mainGlobals "number_in" = some (some (.ref fNi)))
    (lNi : K.lookup fNi = some ⟨ocNi, odNi, .func (PySem.W.fnOf "number_in" "number_in" (defArgs sNumberIn) (defBody sNumberIn) (defScope sNumberIn) .none kVNi dcNi pmNi anNi cdNi ctNi), slNi⟩)
    (cNi : PySem.W.codeIn K cdNi "number_in" = true)
    (kNi : PySem.W.keepIn K (.ref fNi) = true)
    {odSe anSe : Option Addr} {slSe : Array (Option Value)} {ocSe kVSe dcSe pmSe cdSe ctSe : Value}
    (aSe : PySem.W.nsIn K mainGlobals "is_seat" = some (some (.ref fSe)))
    (lSe : K.lookup fSe = some ⟨ocSe, odSe, .func (PySem.W.fnOf "is_seat" "is_seat" (defArgs sIsSeat) (defBody sIsSeat) (defScope sIsSeat) .none kVSe dcSe pmSe anSe cdSe ctSe), slSe⟩)
    (cSe : PySem.W.codeIn K cdSe "is_seat" = true)
    (kSe : PySem.W.keepIn K (.ref fSe) = true)
    {odIl anIl : Option Addr} {slIl : Array (Option Value)} {ocIl kVIl dcIl pmIl cdIl ctIl : Value}
    (aIl : PySem.W.nsIn K mainGlobals "is_label" = some (some (.ref fIl)))
    (lIl : K.lookup fIl = some ⟨ocIl, odIl, .func (PySem.W.fnOf "is_label" "is_label" (defArgs sIsLabel) (defBody sIsLabel) (defScope sIsLabel) .none kVIl dcIl pmIl anIl cdIl ctIl), slIl⟩)
    (cIl : PySem.W.codeIn K cdIl "is_label" = true)
    (kIl : PySem.W.keepIn K (.ref fIl) = true)
    {odTo anTo : Option Addr} {slTo : Array (Option Value)} {ocTo kVTo dcTo pmTo cdTo ctTo : Value}
    (aTo : PySem.W.nsIn K mainGlobals "told_label" = some (some (.ref fTo)))
    (lTo : K.lookup fTo = some ⟨ocTo, odTo, .func (PySem.W.fnOf "told_label" "told_label" (defArgs sToldLabel) (defBody sToldLabel) (defScope sToldLabel) .none kVTo dcTo pmTo anTo cdTo ctTo), slTo⟩)
    (cTo : PySem.W.codeIn K cdTo "told_label" = true)
    (kTo : PySem.W.keepIn K (.ref fTo) = true)
    {odLx anLx : Option Addr} {slLx : Array (Option Value)} {ocLx kVLx dcLx pmLx cdLx ctLx : Value}
    (aLx : PySem.W.nsIn K mainGlobals "label_text" = some (some (.ref fLx)))
    (lLx : K.lookup fLx = some ⟨ocLx, odLx, .func (PySem.W.fnOf "label_text" "label_text" (defArgs sLabelText) (defBody sLabelText) (defScope sLabelText) .none kVLx dcLx pmLx anLx cdLx ctLx), slLx⟩)
    (cLx : PySem.W.codeIn K cdLx "label_text" = true)
    (kLx : PySem.W.keepIn K (.ref fLx) = true)
    {odAr anAr : Option Addr} {slAr : Array (Option Value)} {ocAr kVAr dcAr pmAr cdAr ctAr : Value}
    (aAr : PySem.W.nsIn K mainGlobals "are_tied" = some (some (.ref fAr)))
    (lAr : K.lookup fAr = some ⟨ocAr, odAr, .func (PySem.W.fnOf "are_tied" "are_tied" (defArgs sAreTied) (defBody sAreTied) (defScope sAreTied) .none kVAr dcAr pmAr anAr cdAr ctAr), slAr⟩)
    (cAr : PySem.W.codeIn K cdAr "are_tied" = true)
    (kAr : PySem.W.keepIn K (.ref fAr) = true)
    {odLb anLb : Option Addr} {slLb : Array (Option Value)} {ocLb kVLb dcLb pmLb cdLb ctLb : Value}
    (aLb : PySem.W.nsIn K mainGlobals "label_in" = some (some (.ref fLb)))
    (lLb : K.lookup fLb = some ⟨ocLb, odLb, .func (PySem.W.fnOf "label_in" "label_in" (defArgs sLabelIn) (defBody sLabelIn) (defScope sLabelIn) .none kVLb dcLb pmLb anLb cdLb ctLb), slLb⟩)
    (cLb : PySem.W.codeIn K cdLb "label_in" = true)
    (kLb : PySem.W.keepIn K (.ref fLb) = true)
    {odSy anSy : Option Addr} {slSy : Array (Option Value)} {ocSy kVSy dcSy pmSy cdSy ctSy : Value}
    (aSy : PySem.W.nsIn K mainGlobals "say_tied" = some (some (.ref fSy)))
    (lSy : K.lookup fSy = some ⟨ocSy, odSy, .func (PySem.W.fnOf "say_tied" "say_tied" (defArgs sSayTied) (defBody sSayTied) (defScope sSayTied) .none kVSy dcSy pmSy anSy cdSy ctSy), slSy⟩)
    (cSy : PySem.W.codeIn K cdSy "say_tied" = true)
    (kSy : PySem.W.keepIn K (.ref fSy) = true)
    {odWl anWl : Option Addr} {slWl : Array (Option Value)} {ocWl kVWl dcWl pmWl cdWl ctWl : Value}
    (aWl : PySem.W.nsIn K mainGlobals "_wanted_label" = some (some (.ref fWl)))
    (lWl : K.lookup fWl = some ⟨ocWl, odWl, .func (PySem.W.fnOf "_wanted_label" "_wanted_label" (defArgs sWanted) (defBody sWanted) (defScope sWanted) .none kVWl dcWl pmWl anWl cdWl ctWl), slWl⟩)
    (cWl : PySem.W.codeIn K cdWl "_wanted_label" = true)
    (kWl : PySem.W.keepIn K (.ref fWl) = true)
    {odSm anSm : Option Addr} {slSm : Array (Option Value)} {ocSm kVSm dcSm pmSm cdSm ctSm : Value}
    (aSm : PySem.W.nsIn K mainGlobals "_is_small_seat" = some (some (.ref fSm)))
    (lSm : K.lookup fSm = some ⟨ocSm, odSm, .func (PySem.W.fnOf "_is_small_seat" "_is_small_seat" (defArgs sSmallSeat) (defBody sSmallSeat) (defScope sSmallSeat) .none kVSm dcSm pmSm anSm cdSm ctSm), slSm⟩)
    (cSm : PySem.W.codeIn K cdSm "_is_small_seat" = true)
    (kSm : PySem.W.keepIn K (.ref fSm) = true)
    {odNp anNp : Option Addr} {slNp : Array (Option Value)} {ocNp kVNp dcNp pmNp cdNp ctNp : Value}
    (aNp : PySem.W.nsIn K mainGlobals "_are_near_pieces" = some (some (.ref fNp)))
    (lNp : K.lookup fNp = some ⟨ocNp, odNp, .func (PySem.W.fnOf "_are_near_pieces" "_are_near_pieces" (defArgs sNearPieces) (defBody sNearPieces) (defScope sNearPieces) .none kVNp dcNp pmNp anNp cdNp ctNp), slNp⟩)
    (cNp : PySem.W.codeIn K cdNp "_are_near_pieces" = true)
    (kNp : PySem.W.keepIn K (.ref fNp) = true)
    {odNe anNe : Option Addr} {slNe : Array (Option Value)} {ocNe kVNe dcNe pmNe cdNe ctNe : Value}
    (aNe : PySem.W.nsIn K mainGlobals "_is_near_piece" = some (some (.ref fNe)))
    (lNe : K.lookup fNe = some ⟨ocNe, odNe, .func (PySem.W.fnOf "_is_near_piece" "_is_near_piece" (defArgs sNearPiece) (defBody sNearPiece) (defScope sNearPiece) .none kVNe dcNe pmNe anNe cdNe ctNe), slNe⟩)
    (cNe : PySem.W.codeIn K cdNe "_is_near_piece" = true)
    (kNe : PySem.W.keepIn K (.ref fNe) = true)
    {odSo anSo : Option Addr} {slSo : Array (Option Value)} {ocSo kVSo dcSo pmSo cdSo ctSo : Value}
    (aSo : PySem.W.nsIn K mainGlobals "_sign_of" = some (some (.ref fSo)))
    (lSo : K.lookup fSo = some ⟨ocSo, odSo, .func (PySem.W.fnOf "_sign_of" "_sign_of" (defArgs sSignOf) (defBody sSignOf) (defScope sSignOf) .none kVSo dcSo pmSo anSo cdSo ctSo), slSo⟩)
    (cSo : PySem.W.codeIn K cdSo "_sign_of" = true)
    (kSo : PySem.W.keepIn K (.ref fSo) = true)
    {odSp anSp : Option Addr} {slSp : Array (Option Value)} {ocSp kVSp dcSp pmSp cdSp ctSp : Value}
    (aSp : PySem.W.nsIn K mainGlobals "_law_tagger" = some (some (.ref fSp)))
    (lSp : K.lookup fSp = some ⟨ocSp, odSp, .func (PySem.W.fnOf "_law_tagger" "_law_tagger" (defArgs sTub) (defBody sTub) (defScope sTub) .none kVSp dcSp pmSp anSp cdSp ctSp), slSp⟩)
    (cSp : PySem.W.codeIn K cdSp "_law_tagger" = true)
    (kSp : PySem.W.keepIn K (.ref fSp) = true)
    {odWd anWd : Option Addr} {slWd : Array (Option Value)} {ocWd kVWd dcWd pmWd cdWd ctWd : Value}
    (aWd : PySem.W.nsIn K mainGlobals "_law_stamp" = some (some (.ref fWd)))
    (lWd : K.lookup fWd = some ⟨ocWd, odWd, .func (PySem.W.fnOf "_law_stamp" "_law_stamp" (defArgs sScoop) (defBody sScoop) (defScope sScoop) .none kVWd dcWd pmWd anWd cdWd ctWd), slWd⟩)
    (cWd : PySem.W.codeIn K cdWd "_law_stamp" = true)
    (kWd : PySem.W.keepIn K (.ref fWd) = true)
    {odPk anPk : Option Addr} {slPk : Array (Option Value)} {ocPk kVPk dcPk pmPk cdPk ctPk : Value}
    (aPk : PySem.W.nsIn K mainGlobals "_law_one_of" = some (some (.ref fPk)))
    (lPk : K.lookup fPk = some ⟨ocPk, odPk, .func (PySem.W.fnOf "_law_one_of" "_law_one_of" (defArgs sPick) (defBody sPick) (defScope sPick) .none kVPk dcPk pmPk anPk cdPk ctPk), slPk⟩)
    (cPk : PySem.W.codeIn K cdPk "_law_one_of" = true)
    (kPk : PySem.W.keepIn K (.ref fPk) = true)
    {odNu anNu : Option Addr} {slNu : Array (Option Value)} {ocNu kVNu dcNu pmNu cdNu ctNu : Value}
    (aNu : PySem.W.nsIn K mainGlobals "_law_number" = some (some (.ref fNu)))
    (lNu : K.lookup fNu = some ⟨ocNu, odNu, .func (PySem.W.fnOf "_law_number" "_law_number" (defArgs sLNumber) (defBody sLNumber) (defScope sLNumber) .none kVNu dcNu pmNu anNu cdNu ctNu), slNu⟩)
    (cNu : PySem.W.codeIn K cdNu "_law_number" = true)
    (kNu : PySem.W.keepIn K (.ref fNu) = true)
    {odRd anRd : Option Addr} {slRd : Array (Option Value)} {ocRd kVRd dcRd pmRd cdRd ctRd : Value}
    (aRd : PySem.W.nsIn K mainGlobals "_law_read" = some (some (.ref fRd)))
    (lRd : K.lookup fRd = some ⟨ocRd, odRd, .func (PySem.W.fnOf "_law_read" "_law_read" (defArgs sLRead) (defBody sLRead) (defScope sLRead) .none kVRd dcRd pmRd anRd cdRd ctRd), slRd⟩)
    (cRd : PySem.W.codeIn K cdRd "_law_read" = true)
    (kRd : PySem.W.keepIn K (.ref fRd) = true)
    {odSg anSg : Option Addr} {slSg : Array (Option Value)} {ocSg kVSg dcSg pmSg cdSg ctSg : Value}
    (aSg : PySem.W.nsIn K mainGlobals "_law_signs" = some (some (.ref fSg)))
    (lSg : K.lookup fSg = some ⟨ocSg, odSg, .func (PySem.W.fnOf "_law_signs" "_law_signs" (defArgs sLSigns) (defBody sLSigns) (defScope sLSigns) .none kVSg dcSg pmSg anSg cdSg ctSg), slSg⟩)
    (cSg : PySem.W.codeIn K cdSg "_law_signs" = true)
    (kSg : PySem.W.keepIn K (.ref fSg) = true)
    {odLl anLl : Option Addr} {slLl : Array (Option Value)} {ocLl kVLl dcLl pmLl cdLl ctLl : Value}
    (aLl : PySem.W.nsIn K mainGlobals "_law_label" = some (some (.ref fLl)))
    (lLl : K.lookup fLl = some ⟨ocLl, odLl, .func (PySem.W.fnOf "_law_label" "_law_label" (defArgs sLLabel) (defBody sLLabel) (defScope sLLabel) .none kVLl dcLl pmLl anLl cdLl ctLl), slLl⟩)
    (cLl : PySem.W.codeIn K cdLl "_law_label" = true)
    (kLl : PySem.W.keepIn K (.ref fLl) = true)
    {odTx anTx : Option Addr} {slTx : Array (Option Value)} {ocTx kVTx dcTx pmTx cdTx ctTx : Value}
    (aTx : PySem.W.nsIn K mainGlobals "_law_text" = some (some (.ref fTx)))
    (lTx : K.lookup fTx = some ⟨ocTx, odTx, .func (PySem.W.fnOf "_law_text" "_law_text" (defArgs sLText) (defBody sLText) (defScope sLText) .none kVTx dcTx pmTx anTx cdTx ctTx), slTx⟩)
    (cTx : PySem.W.codeIn K cdTx "_law_text" = true)
    (kTx : PySem.W.keepIn K (.ref fTx) = true)
    {odHe anHe : Option Addr} {slHe : Array (Option Value)} {ocHe kVHe dcHe pmHe cdHe ctHe : Value}
    (aHe : PySem.W.nsIn K mainGlobals "_law_heard" = some (some (.ref fHe)))
    (lHe : K.lookup fHe = some ⟨ocHe, odHe, .func (PySem.W.fnOf "_law_heard" "_law_heard" (defArgs sHeard) (defBody sHeard) (defScope sHeard) .none kVHe dcHe pmHe anHe cdHe ctHe), slHe⟩)
    (cHe : PySem.W.codeIn K cdHe "_law_heard" = true)
    (kHe : PySem.W.keepIn K (.ref fHe) = true)
    {odBe anBe : Option Addr} {slBe : Array (Option Value)} {ocBe kVBe dcBe pmBe cdBe ctBe : Value}
    (aBe : PySem.W.nsIn K mainGlobals "_law_bent" = some (some (.ref fBe)))
    (lBe : K.lookup fBe = some ⟨ocBe, odBe, .func (PySem.W.fnOf "_law_bent" "_law_bent" (defArgs sLBent) (defBody sLBent) (defScope sLBent) .none kVBe dcBe pmBe anBe cdBe ctBe), slBe⟩)
    (cBe : PySem.W.codeIn K cdBe "_law_bent" = true)
    (kBe : PySem.W.keepIn K (.ref fBe) = true)
    {odTr anTr : Option Addr} {slTr : Array (Option Value)} {ocTr kVTr dcTr pmTr cdTr ctTr : Value}
    (aTr : PySem.W.nsIn K mainGlobals "_law_text_right" = some (some (.ref fTr)))
    (lTr : K.lookup fTr = some ⟨ocTr, odTr, .func (PySem.W.fnOf "_law_text_right" "_law_text_right" (defArgs sLTextRight) (defBody sLTextRight) (defScope sLTextRight) .none kVTr dcTr pmTr anTr cdTr ctTr), slTr⟩)
    (cTr : PySem.W.codeIn K cdTr "_law_text_right" = true)
    (kTr : PySem.W.keepIn K (.ref fTr) = true)
    {odPr anPr : Option Addr} {slPr : Array (Option Value)} {ocPr kVPr dcPr pmPr cdPr ctPr : Value}
    (aPr : PySem.W.nsIn K mainGlobals "_law_parts_right" = some (some (.ref fPr)))
    (lPr : K.lookup fPr = some ⟨ocPr, odPr, .func (PySem.W.fnOf "_law_parts_right" "_law_parts_right" (defArgs sLPartsRight) (defBody sLPartsRight) (defScope sLPartsRight) .none kVPr dcPr pmPr anPr cdPr ctPr), slPr⟩)
    (cPr : PySem.W.codeIn K cdPr "_law_parts_right" = true)
    (kPr : PySem.W.keepIn K (.ref fPr) = true)
    {odLa anLa : Option Addr} {slLa : Array (Option Value)} {ocLa kVLa dcLa pmLa cdLa ctLa : Value}
    (aLa : PySem.W.nsIn K mainGlobals "law" = some (some (.ref fLa)))
    (lLa : K.lookup fLa = some ⟨ocLa, odLa, .func (PySem.W.fnOf "law" "law" (defArgs sLaw) (defBody sLaw) (defScope sLaw) .none kVLa dcLa pmLa anLa cdLa ctLa), slLa⟩)
    (cLa : PySem.W.codeIn K cdLa "law" = true)
    (kLa : PySem.W.keepIn K (.ref fLa) = true)
    {e1C e2C : Value} {dd1C dd2C : Option Addr} {vs1C vs2C : Array Value} {sl1C sl2C : Array (Option Value)}
    (w1c : cdTr = .ref c1)
    (w1k : K.lookup c1 = some ⟨e1C, dd1C, .fields vs1C, sl1C⟩)
    (w1v : vs1C[11]? = some (.ref T1))
    (w1n : K.lookup T1 = none)
    (w2c : cdPr = .ref c2)
    (w2k : K.lookup c2 = some ⟨e2C, dd2C, .fields vs2C, sl2C⟩)
    (w2v : vs2C[11]? = some (.ref T2))
    (w2n : K.lookup T2 = none)
    (wne : T1 ≠ T2)
    (r1 : ((recsOf qq).any fun e => e.name == ("_law_text_right" : Str)) = true)
    (r2 : ((recsOf qq).any fun e => e.name == ("_law_parts_right" : Str)) = true)
    (kBL : PySem.W.kitOne K (.ref CB) (.ref CL) = some false)
    {tM1 tM2 tM3 tM4 tM5 : Tok}
    (zM1 : PySem.W.nsIn K mainGlobals "MOST_DIGITS" = some (some (.int 140 tM1)))
    (zM2 : PySem.W.nsIn K mainGlobals "MOST_IN_BAG" = some (some (.int 4 tM2)))
    (zM3 : PySem.W.nsIn K mainGlobals "LANES" = some (some (.int 3 tM3)))
    (zM4 : PySem.W.nsIn K mainGlobals "MOST_NUMBER" = some (some (.int 999 tM4)))
    (zM5 : PySem.W.nsIn K mainGlobals "MANY_SIGNS" = some (some (.int 9 tM5)))
    (aCS : PySem.W.nsIn K mainGlobals "LaneError" = some (some (.ref CS)))
    (bCS : PySem.W.subIn K (.ref CS) (.type "BaseException") = some true)
    (dCS : PySem.W.hasDictIn K CS = true)
    (tCS : PySem.W.typeIn K (.ref CS) = some (.type "type"))
    {nmCL qCL : Str} {NCL : Addr} {bsCL : List Value} {bmCL : List Value} {snCL : List Str} {subCL : List Value} {abCL : Bool} {colCL : Option Bool} {ddCL : Option Addr} {m0CL m1CL m2CL m3CL m5CL : Option Value}
    (aCL : PySem.W.nsIn K mainGlobals "BadLabel" = some (some (.ref CL)))
    (xCL : K.lookup CL = some (excClassObj nmCL qCL CL NCL bsCL bmCL true snCL subCL abCL colCL ddCL m0CL m1CL m2CL m3CL m5CL "ValueError.__new__"))
    (vCL : PySem.HandSPX.refsVE bmCL = true)
    (saCL : PySem.W.findIn K (.ref CL) "__setattr__" = some (some (.builtin "object.__setattr__")))
    (gaCL : PySem.W.findIn K (.ref CL) "__getattribute__" = some (some (.builtin "BaseException.__getattribute__")))
    (ggCL : PySem.W.findIn K (.ref CL) "__getattr__" = some none)
    (noCL : PySem.W.findIn K (.ref CL) "part" = some none)
    (keCL : PySem.W.keepIn K (.ref CL) = true)
    (exCL : PySem.W.subIn K (.ref CL) (.type "BaseException") = some true)
    (tyCL : PySem.W.typeIn K (.ref CL) = some (.type "type"))
    (hdCL : PySem.W.hasDictIn K CL = true)
    (ciCL : PySem.W.isClsIn K CL = true)
    (haCL : PySem.W.findIn K (.ref CL) "__class__" = some (some (.builtin "object.__class__")))
    (hmCL : PySem.W.mroIn K CL (.type "object") = some true)
    (suCL : PySem.W.subIn K (.ref CL) (.ref CS) = some true)
    (kiCL : PySem.W.kitOne K (.ref CL) (.ref CL) = some true)
    {odfLI anfLI : Option Addr} {slfLI : Array (Option Value)} {ocfLI dcfLI pmfLI cdfLI ctfLI : Value}
    (afLI : PySem.W.findIn K (.ref CL) "__init__" = some (some (.ref fLI)))
    (tfLI : PySem.W.typeIn K (.ref fLI) = some (.type "function"))
    (lfLI : K.lookup fLI = some ⟨ocfLI, odfLI, .func (PySem.W.fnOf "__init__" "BadLabel.__init__" (defArgs (inClass (topS 8) 0)) (defBody (inClass (topS 8) 0)) (defScope (inClass (topS 8) 0)) .none .none dcfLI pmfLI anfLI cdfLI ctfLI), slfLI⟩)
    (cfLI : PySem.W.codeIn K cdfLI "BadLabel.__init__" = true)
    {nmCB qCB : Str} {NCB : Addr} {bsCB : List Value} {bmCB : List Value} {snCB : List Str} {subCB : List Value} {abCB : Bool} {colCB : Option Bool} {ddCB : Option Addr} {m0CB m1CB m2CB m3CB m5CB : Option Value}
    (aCB : PySem.W.nsIn K mainGlobals "BadSeats" = some (some (.ref CB)))
    (xCB : K.lookup CB = some (excClassObj nmCB qCB CB NCB bsCB bmCB true snCB subCB abCB colCB ddCB m0CB m1CB m2CB m3CB m5CB "ValueError.__new__"))
    (vCB : PySem.HandSPX.refsVE bmCB = true)
    (saCB : PySem.W.findIn K (.ref CB) "__setattr__" = some (some (.builtin "object.__setattr__")))
    (gaCB : PySem.W.findIn K (.ref CB) "__getattribute__" = some (some (.builtin "BaseException.__getattribute__")))
    (ggCB : PySem.W.findIn K (.ref CB) "__getattr__" = some none)
    (noCB : PySem.W.findIn K (.ref CB) "part" = some none)
    (keCB : PySem.W.keepIn K (.ref CB) = true)
    (exCB : PySem.W.subIn K (.ref CB) (.type "BaseException") = some true)
    (tyCB : PySem.W.typeIn K (.ref CB) = some (.type "type"))
    (hdCB : PySem.W.hasDictIn K CB = true)
    (ciCB : PySem.W.isClsIn K CB = true)
    (haCB : PySem.W.findIn K (.ref CB) "__class__" = some (some (.builtin "object.__class__")))
    (hmCB : PySem.W.mroIn K CB (.type "object") = some true)
    (suCB : PySem.W.subIn K (.ref CB) (.ref CS) = some true)
    (kiCB : PySem.W.kitOne K (.ref CB) (.ref CB) = some true)
    {odfBI anfBI : Option Addr} {slfBI : Array (Option Value)} {ocfBI dcfBI pmfBI cdfBI ctfBI : Value}
    (afBI : PySem.W.findIn K (.ref CB) "__init__" = some (some (.ref fBI)))
    (tfBI : PySem.W.typeIn K (.ref fBI) = some (.type "function"))
    (lfBI : K.lookup fBI = some ⟨ocfBI, odfBI, .func (PySem.W.fnOf "__init__" "BadSeats.__init__" (defArgs (inClass (topS 7) 0)) (defBody (inClass (topS 7) 0)) (defScope (inClass (topS 7) 0)) .none .none dcfBI pmfBI anfBI cdfBI ctfBI), slfBI⟩)
    (cfBI : PySem.W.codeIn K cdfBI "BadSeats.__init__" = true)
    (hn : PySem.W.specialIn K (.builtin "object.__class__") "__get__" = some (some (.builtin "getset_descriptor.__get__")))
    (ht : PySem.W.takesIn K (.builtin "object.__class__") = some true)
    (z_int : PySem.W.nsIn K mainGlobals "int" = some none)
    (z_bool : PySem.W.nsIn K mainGlobals "bool" = some none)
    (z_str : PySem.W.nsIn K mainGlobals "str" = some none)
    (z_list : PySem.W.nsIn K mainGlobals "list" = some none)
    (z_tuple : PySem.W.nsIn K mainGlobals "tuple" = some none)
    (z_isinstance : PySem.W.nsIn K mainGlobals "isinstance" = some none)
    (z_all : PySem.W.nsIn K mainGlobals "all" = some none)
    (z_len : PySem.W.nsIn K mainGlobals "len" = some none)
    (z_abs : PySem.W.nsIn K mainGlobals "abs" = some none)
    (z_range : PySem.W.nsIn K mainGlobals "range" = some none)
    (z_repr : PySem.W.nsIn K mainGlobals "repr" = some none)
    (z_set : PySem.W.nsIn K mainGlobals "set" = some none)
    (z_sorted : PySem.W.nsIn K mainGlobals "sorted" = some none)
    : ∃ (fd : FuncData) (Ts : List (Addr × Addr)) (sp : Sp), (∀ p ∈ Ts, TabOf K mg qq p) ∧ (∀ (s : Shared) (u : Value), BindsTo s fd ⟨[u], []⟩ [("script", u)]) ∧
        (∀ (H : Hp) (a : Addr) (ns : List Int), ns.length ≤ 63 → (∀ p ∈ Ts, H p.2 = some (.tbl #[])) → SqL K H a (ns.map V.int) → sp [.ref a] H (fun v _ => v = .bl true) fun _ _ _ => False) ∧
        ∀ base : Heap, K.In base → base.Ns mainGlobals mg → (∀ p ∈ Ts, TabB base mg p.1 p.2) → FnG l.prog w K mg base 12 fa fd ["script"] sp := by
  have e := hfa.symm.trans (PySem.W.mg_of X G aLa)
  cases e
  have FIn := fun_mk (st := sInteger) lIn cIn kIn
  have bIn := FIn.binds (ps := ["value"]) fun _ _ _ _ _ _ us hl => match us, hl with | [_], _ => rfl
  have FWi := fun_mk (st := sWithin) lWi cWi kWi
  have bWi := FWi.binds (ps := ["value", "least", "most"]) fun _ _ _ _ _ _ us hl => match us, hl with | [_, _, _], _ => rfl
  have FLi := fun_mk (st := sList) lLi cLi kLi
  have bLi := FLi.binds (ps := ["value"]) fun _ _ _ _ _ _ us hl => match us, hl with | [_], _ => rfl
  have FRo := fun_mk (st := sRow) lRo cRo kRo
  have bRo := FRo.binds (ps := ["value", "least", "most"]) fun _ _ _ _ _ _ us hl => match us, hl with | [_, _, _], _ => rfl
  have FNi := fun_mk (st := sNumberIn) lNi cNi kNi
  have bNi := FNi.binds (ps := ["item", "least", "most"]) fun _ _ _ _ _ _ us hl => match us, hl with | [_, _, _], _ => rfl
  have FSe := fun_mk (st := sIsSeat) lSe cSe kSe
  have bSe := FSe.binds (ps := ["value"]) fun _ _ _ _ _ _ us hl => match us, hl with | [_], _ => rfl
  have FIl := fun_mk (st := sIsLabel) lIl cIl kIl
  have bIl := FIl.binds (ps := ["value"]) fun _ _ _ _ _ _ us hl => match us, hl with | [_], _ => rfl
  have FTo := fun_mk (st := sToldLabel) lTo cTo kTo
  have bTo := FTo.binds (ps := ["label"]) fun _ _ _ _ _ _ us hl => match us, hl with | [_], _ => rfl
  have FLx := fun_mk (st := sLabelText) lLx cLx kLx
  have bLx := FLx.binds (ps := ["seat", "near"]) fun _ _ _ _ _ _ us hl => match us, hl with | [_, _], _ => rfl
  have FAr := fun_mk (st := sAreTied) lAr cAr kAr
  have bAr := FAr.binds (ps := ["one", "other"]) fun _ _ _ _ _ _ us hl => match us, hl with | [_, _], _ => rfl
  have FLb := fun_mk (st := sLabelIn) lLb cLb kLb
  have bLb := FLb.binds (ps := ["value"]) fun _ _ _ _ _ _ us hl => match us, hl with | [_], _ => rfl
  have FSy := fun_mk (st := sSayTied) lSy cSy kSy
  have bSy := FSy.binds (ps := ["one", "other"]) fun _ _ _ _ _ _ us hl => match us, hl with | [_, _], _ => rfl
  have FWl := fun_mk (st := sWanted) lWl cWl kWl
  have bWl := FWl.binds (ps := ["label", "part"]) fun _ _ _ _ _ _ us hl => match us, hl with | [_, _], _ => rfl
  have FSm := fun_mk (st := sSmallSeat) lSm cSm kSm
  have bSm := FSm.binds (ps := ["value"]) fun _ _ _ _ _ _ us hl => match us, hl with | [_], _ => rfl
  have FNp := fun_mk (st := sNearPieces) lNp cNp kNp
  have bNp := FNp.binds (ps := ["seat", "value"]) fun _ _ _ _ _ _ us hl => match us, hl with | [_, _], _ => rfl
  have FNe := fun_mk (st := sNearPiece) lNe cNe kNe
  have bNe := FNe.binds (ps := ["seat", "value"]) fun _ _ _ _ _ _ us hl => match us, hl with | [_, _], _ => rfl
  have FSo := fun_mk (st := sSignOf) lSo cSo kSo
  have bSo := FSo.binds (ps := ["seat", "other"]) fun _ _ _ _ _ _ us hl => match us, hl with | [_, _], _ => rfl
  have FSp := fun_mk (st := sTub) lSp cSp kSp
  have bSp := FSp.binds (ps := ["script"]) fun _ _ _ _ _ _ us hl => match us, hl with | [_], _ => rfl
  have FWd := fun_mk (st := sScoop) lWd cWd kWd
  have bWd := FWd.binds (ps := ["tagger", "many"]) fun _ _ _ _ _ _ us hl => match us, hl with | [_, _], _ => rfl
  have FPk := fun_mk (st := sPick) lPk cPk kPk
  have bPk := FPk.binds (ps := ["tagger", "some"]) fun _ _ _ _ _ _ us hl => match us, hl with | [_, _], _ => rfl
  have FNu := fun_mk (st := sLNumber) lNu cNu kNu
  have bNu := FNu.binds (ps := ["item"]) fun _ _ _ _ _ _ us hl => match us, hl with | [_], _ => rfl
  have FRd := fun_mk (st := sLRead) lRd cRd kRd
  have bRd := FRd.binds (ps := ["value"]) fun _ _ _ _ _ _ us hl => match us, hl with | [_], _ => rfl
  have FSg := fun_mk (st := sLSigns) lSg cSg kSg
  have bSg := FSg.binds (ps := ["tagger", "layer", "lane"]) fun _ _ _ _ _ _ us hl => match us, hl with | [_, _, _], _ => rfl
  have FLl := fun_mk (st := sLLabel) lLl cLl kLl
  have bLl := FLl.binds (ps := ["tagger"]) fun _ _ _ _ _ _ us hl => match us, hl with | [_], _ => rfl
  have FTx := fun_mk (st := sLText) lTx cTx kTx
  have bTx := FTx.binds (ps := ["label"]) fun _ _ _ _ _ _ us hl => match us, hl with | [_], _ => rfl
  have FHe := fun_mk (st := sHeard) lHe cHe kHe
  have bHe := FHe.binds (ps := ["ask"]) fun _ _ _ _ _ _ us hl => match us, hl with | [_], _ => rfl
  have FBe := fun_mk (st := sLBent) lBe cBe kBe
  have bBe := FBe.binds (ps := ["tagger", "label"]) fun _ _ _ _ _ _ us hl => match us, hl with | [_, _], _ => rfl
  have FTr := fun_mk (st := sLTextRight) lTr cTr kTr
  have bTr := FTr.binds (ps := ["value"]) fun _ _ _ _ _ _ us hl => match us, hl with | [_], _ => rfl
  have FPr := fun_mk (st := sLPartsRight) lPr cPr kPr
  have bPr := FPr.binds (ps := ["tagger", "label"]) fun _ _ _ _ _ _ us hl => match us, hl with | [_, _], _ => rfl
  have FLa := fun_mk (st := sLaw) lLa cLa kLa
  have bLa := FLa.binds (ps := ["script"]) fun _ _ _ _ _ _ us hl => match us, hl with | [_], _ => rfl
  have n : ∀ {x : Str}, PySem.W.nsIn K mainGlobals x = some none → mg x = none := fun h => PySem.W.mg_none_of X G h
  have g : ∀ {x : Str} {v : Value}, PySem.W.nsIn K mainGlobals x = some (some v) → mg x = some v := fun h => PySem.W.mg_of X G h
  have ECL : ErrC K CL := ⟨gaCL, ggCL, exCL, hdCL, ciCL, haCL, hn, ht, hmCL⟩
  have PCL : PySem.PartX.PartTxt K mg "BadLabel" "BadLabel.__init__" CL fLI := { gC := g aCL, cls := ⟨_, _, _, _, _, _, _, _, _, _, _, _, _, _, _, xCL, vCL⟩, sa := saCL, ga := gaCL, gg := ggCL, noN := noCL, iC := afLI, tC := tfLI, kC := keCL, exC := exCL, tyC := tyCL, hdC := hdCL, fn := ⟨_, _, _, _, _, _, _, _, _, _, _, _, _, _, lfLI, cfLI⟩ }
  have ECB : ErrC K CB := ⟨gaCB, ggCB, exCB, hdCB, ciCB, haCB, hn, ht, hmCB⟩
  have PCB : PySem.PartX.PartTxt K mg "BadSeats" "BadSeats.__init__" CB fBI := { gC := g aCB, cls := ⟨_, _, _, _, _, _, _, _, _, _, _, _, _, _, _, xCB, vCB⟩, sa := saCB, ga := gaCB, gg := ggCB, noN := noCB, iC := afBI, tC := tfBI, kC := keCB, exC := exCB, tyC := tyCB, hdC := hdCB, fn := ⟨_, _, _, _, _, _, _, _, _, _, _, _, _, _, lfBI, cfBI⟩ }
  have kIl := kbn_of FIl (ps := ["value"]) 0 ["value"] (fun us ws => just1 us ws) (fun _ r => r) fun _ _ _ _ _ _ us ws h1 h2 => match us, ws, h1, h2 with | [], [_], _, _ => rfl
  have kTo := kbn_of FTo (ps := ["label"]) 0 ["label"] (fun us ws => just1 us ws) (fun _ r => r) fun _ _ _ _ _ _ us ws h1 h2 => match us, ws, h1, h2 with | [], [_], _, _ => rfl
  have kLx := kbn_of FLx (ps := ["seat", "near"]) 0 ["near", "seat"] (fun us ws => swap2 us ws) (fun _ r => swap2_rel r) fun _ _ _ _ _ _ us ws h1 h2 => match us, ws, h1, h2 with | [], [_, _], _, _ => rfl
  have E2 : TE60 K mg CL CB CS := ⟨g aCL, g aCB, g aCS, ECL, ECB, noCL, noCB, PySem.W.exm_ref bCS dCS tCS suCL, PySem.W.exm_ref bCS dCS tCS suCB, kiCL, kBL, kiCB⟩
  refine ⟨PySem.W.fnOf "law" "law" (defArgs sLaw) (defBody sLaw) (defScope sLaw) .none kVLa dcLa pmLa anLa cdLa ctLa, [(c1, T1), (c2, T2)], spLaw K T1 T2, fun p hp => ?_, fun s v => .of_eq rfl, fun H a ns hl hT hS => ⟨a, ns, rfl, hS, hl, fun p hp => ?_, fun _ => rfl⟩, fun base _ _ TBs => ?_⟩
  · simp only [List.mem_cons, List.not_mem_nil, or_false] at hp
    rcases hp with rfl | rfl
    · exact ⟨"_law_text_right", fTr, _, _, e1C, dd1C, vs1C, sl1C, r1, g aTr, lTr, rfl, w1c, w1k, w1v, w1n⟩
    · exact ⟨"_law_parts_right", fPr, _, _, e2C, dd2C, vs2C, sl2C, r2, g aPr, lPr, rfl, w2c, w2k, w2v, w2n⟩
  · simp only [List.mem_cons, List.not_mem_nil, or_false] at hp
    rcases hp with rfl | rfl
    · exact TabS.nil (hT (c1, T1) List.mem_cons_self)
    · exact TabS.nil (hT (c2, T2) (List.mem_cons_of_mem _ List.mem_cons_self))
  have TB1 := TBs (c1, T1) List.mem_cons_self
  have TB2 := TBs (c2, T2) (List.mem_cons_of_mem _ List.mem_cons_self)
  have GIn := ok_integer (P := l.prog) (w := w) (mg := mg) (base := base) (k := 0) FIn (n z_isinstance) (n z_int) (n z_bool)
  have GWi := ok_within (P := l.prog) (w := w) (mg := mg) (base := base) (k := 1) FWi FIn GIn bIn (g aIn)
  have GLi := ok_list (P := l.prog) (w := w) (mg := mg) (base := base) (k := 0) FLi (n z_isinstance) (n z_list) (n z_tuple)
  have GRo := ok_row (P := l.prog) (w := w) (mg := mg) (base := base) (k := 2) FRo FWi GWi bWi (g aWi) FLi (GLi.mono (by decide)) bLi (g aLi) (n z_all)
  have GNi := ok_numberIn (P := l.prog) (w := w) (mg := mg) (base := base) (k := 2) FNi FWi GWi bWi (g aWi) (g zM1) (n z_len) (n z_int)
  have GSe := ok_isSeat (P := l.prog) (w := w) (mg := mg) (base := base) (k := 3) FSe FRo GRo bRo (g aRo) (g zM3) (n z_len)
  have GSm := ok_small (P := l.prog) (w := w) (mg := mg) (base := base) (k := 4) FSm FSe GSe bSe (g aSe) (g zM4)
  have GSo := ok_signOf (P := l.prog) (w := w) (mg := mg) (base := base) (k := 0) FSo (g zM3)
  have GNe := ok_nearPiece (P := l.prog) (w := w) (mg := mg) (base := base) (k := 2) FNe FLi (GLi.mono (by decide)) bLi (g aLi) FWi GWi bWi (g aWi) FSo (GSo.mono (by decide)) bSo (g aSo) (g zM4) (g zM5) (g zM3) (n z_isinstance) (n z_str) (n z_len) (n z_all)
  have GNp := ok_nearPieces (P := l.prog) (w := w) (mg := mg) (base := base) (k := 3) FNp FLi (GLi.mono (by decide)) bLi (g aLi) FWi (GWi.mono (by decide)) bWi (g aWi) FNe GNe bNe (g aNe) (g zM2) (n z_len) (n z_all) (n z_set) (n z_sorted)
  have GLb := ok_labelIn (P := l.prog) (w := w) (mg := mg) (base := base) (k := 5) FLb FNi (GNi.mono (by decide)) bNi (g aNi) FSm GSm bSm (g aSm) FNp (GNp.mono (by decide)) bNp (g aNp) (g zM4) (n z_isinstance) (n z_str) (n z_len) (n z_all) (n z_tuple) (n z_range)
  have GIl := ok_isLabel (P := l.prog) (w := w) (mg := mg) (base := base) (k := 6) FIl FLb GLb bLb (g aLb)
  have GSy := ok_say (P := l.prog) (w := w) (mg := mg) (base := base) (k := 0) FSy
  have GWl := ok_wanted (P := l.prog) (w := w) (mg := mg) (base := base) (k := 4) FWl FLb GLb bLb (g aLb) PCL
  have GTo := ok_told (P := l.prog) (w := w) (mg := mg) (base := base) (k := 7) FTo FWl GWl bWl (g aWl)
  have GAr := ok_are (P := l.prog) (w := w) (mg := mg) (base := base) (k := 7) FAr FSy (GSy.mono (by decide)) bSy (g aSy) FWl GWl bWl (g aWl)
  have GLx := ok_labelText (P := l.prog) (w := w) (mg := mg) (base := base) (k := 3) FLx FSm GSm bSm (g aSm) FNp (GNp.mono (by decide)) bNp (g aNp) PCB PCL (n z_str)
  have GSp := ok_tub (P := l.prog) (w := w) (mg := mg) (base := base) (k := 10) FSp (n z_int)
  have GWd := ok_scoop (P := l.prog) (w := w) (mg := mg) (base := base) (k := 0) FWd (n z_int) (n z_len) (n z_abs)
  have GPk := ok_pick (P := l.prog) (w := w) (mg := mg) (base := base) (k := 1) FPk FWd GWd bWd (g aWd) (n z_len)
  have GNu := ok_lNumber (P := l.prog) (w := w) (mg := mg) (base := base) (k := 6) FNu (n z_len) (n z_int)
  have GRd := ok_read (P := l.prog) (w := w) (mg := mg) (base := base) (k := 7) FRd FNu GNu bNu (g aNu) (n z_isinstance) (n z_str) (n z_int) (n z_len) (n z_set) (n z_sorted) (n z_tuple) (n z_range)
  have GSg := ok_signs (P := l.prog) (w := w) (mg := mg) (base := base) (k := 2) FSg FWd (GWd.mono (by decide)) bWd (g aWd) (n z_range)
  have GLl := ok_label (P := l.prog) (w := w) (mg := mg) (base := base) (k := 3) FLl FWd (GWd.mono (by decide)) bWd (g aWd) FSg GSg bSg (g aSg) FPk (GPk.mono (by decide)) bPk (g aPk) (n z_tuple)
  have GTx := ok_lText (P := l.prog) (w := w) (mg := mg) (base := base) (k := 1) FTx (n z_str)
  have GBe := ok_bent (P := l.prog) (w := w) (mg := mg) (base := base) (k := 2) FBe FWd (GWd.mono (by decide)) bWd (g aWd) FPk GPk bPk (g aPk) FTx GTx bTx (g aTx) (n z_str) (n z_len)
  have GTr := ok_textRight (P := l.prog) (w := w) (mg := mg) (base := base) (k := 8) FTr w1c TB1 wne FRd GRd bRd (g aRd) FIl (GIl.mono (by decide)) kIl (g aIl) FTo GTo bTo kTo (g aTo) FAr GAr bAr (g aAr) FLx (GLx.mono (by decide)) bLx (g aLx) FHe bHe (g aHe) E2 (n z_isinstance) (n z_repr)
  have GPr := ok_partsRight (P := l.prog) (w := w) (mg := mg) (base := base) (k := 8) FPr w2c TB2 wne FPk (GPk.mono (by decide)) bPk (g aPk) FLx (GLx.mono (by decide)) bLx (g aLx) FHe bHe (g aHe) E2 (n z_isinstance) (n z_len) (n z_tuple) (n z_range)
  exact ok_law (k := 11) FLa FSp GSp bSp (g aSp) FLl (GLl.mono (by decide)) bLl (g aLl) FTx (GTx.mono (by decide)) bTx (g aTx) FLx (GLx.mono (by decide)) kLx (g aLx) FTr GTr bTr (g aTr) FBe (GBe.mono (by decide)) bBe (g aBe) FPr GPr bPr (g aPr) FPk (GPk.mono (by decide)) bPk (g aPk) (n z_list) (n z_range)
end P60
end S_KC
open PySem PySem.W PyProof.Rows
set_option maxRecDepth 100000 in
set_option maxHeartbeats 0 in
theorem PySem.Challenge.cw_threelanes_k60_labels_written_and_read_holds : PySem.Challenge.rw_threelanes_k60_labels_written_and_read.Holds := by
  w_on; o_law; k_head; (case hw => w_witness2)
  k_fill
  refine Hk.walk_gTs (l := PySem.Challenge.rw_threelanes_k60_labels_written_and_read) (n := 63) (k := 12) (x := "script") rfl (by decide) rfl ⟨rfl, by decide, by decide⟩ (fun w h Y => PySem.W.km_in_of Y) ?F
  case F =>
    intro w mg fa h KX G hmg
    refine' P60.all_mk KX G hmg ?aIn ?lIn ?cIn ?kIn ?aWi ?lWi ?cWi ?kWi ?aLi ?lLi ?cLi ?kLi ?aRo ?lRo ?cRo ?kRo ?aNi ?lNi ?cNi ?kNi ?aSe ?lSe ?cSe ?kSe ?aIl ?lIl ?cIl ?kIl ?aTo ?lTo ?cTo ?kTo ?aLx ?lLx ?cLx ?kLx ?aAr ?lAr ?cAr ?kAr ?aLb ?lLb ?cLb ?kLb ?aSy ?lSy ?cSy ?kSy ?aWl ?lWl ?cWl ?kWl ?aSm ?lSm ?cSm ?kSm ?aNp ?lNp ?cNp ?kNp ?aNe ?lNe ?cNe ?kNe ?aSo ?lSo ?cSo ?kSo ?aSp ?lSp ?cSp ?kSp ?aWd ?lWd ?cWd ?kWd ?aPk ?lPk ?cPk ?kPk ?aNu ?lNu ?cNu ?kNu ?aRd ?lRd ?cRd ?kRd ?aSg ?lSg ?cSg ?kSg ?aLl ?lLl ?cLl ?kLl ?aTx ?lTx ?cTx ?kTx ?aHe ?lHe ?cHe ?kHe ?aBe ?lBe ?cBe ?kBe ?aTr ?lTr ?cTr ?kTr ?aPr ?lPr ?cPr ?kPr ?aLa ?lLa ?cLa ?kLa ?w1c ?w1k ?w1v ?w1n ?w2c ?w2k ?w2v ?w2n ?wne ?r1 ?r2 ?kBL ?zM1 ?zM2 ?zM3 ?zM4 ?zM5 ?aCS ?bCS ?dCS ?tCS ?aCL ?xCL ?vCL ?saCL ?gaCL ?ggCL ?noCL ?keCL ?exCL ?tyCL ?hdCL ?ciCL ?haCL ?hmCL ?suCL ?kiCL ?afLI ?tfLI ?lfLI ?cfLI ?aCB ?xCB ?vCB ?saCB ?gaCB ?ggCB ?noCB ?keCB ?exCB ?tyCB ?hdCB ?ciCB ?haCB ?hmCB ?suCB ?kiCB ?afBI ?tfBI ?lfBI ?cfBI ?hn ?ht ?z_int ?z_bool ?z_str ?z_list ?z_tuple ?z_isinstance ?z_all ?z_len ?z_abs ?z_range ?z_repr ?z_set ?z_sorted
    (case aIn => k_is)
    (case lIn => k_is)
    (case cIn => k_is)
    (case kIn => k_is)
    (case aWi => k_is)
    (case lWi => k_is)
    (case cWi => k_is)
    (case kWi => k_is)
    (case aLi => k_is)
    (case lLi => k_is)
    (case cLi => k_is)
    (case kLi => k_is)
    (case aRo => k_is)
    (case lRo => k_is)
    (case cRo => k_is)
    (case kRo => k_is)
    (case aNi => k_is)
    (case lNi => k_is)
    (case cNi => k_is)
    (case kNi => k_is)
    (case aSe => k_is)
    (case lSe => k_is)
    (case cSe => k_is)
    (case kSe => k_is)
    (case aIl => k_is)
    (case lIl => k_is)
    (case cIl => k_is)
    (case kIl => k_is)
    (case aTo => k_is)
    (case lTo => k_is)
    (case cTo => k_is)
    (case kTo => k_is)
    (case aLx => k_is)
    (case lLx => k_is)
    (case cLx => k_is)
    (case kLx => k_is)
    (case aAr => k_is)
    (case lAr => k_is)
    (case cAr => k_is)
    (case kAr => k_is)
    (case aLb => k_is)
    (case lLb => k_is)
    (case cLb => k_is)
    (case kLb => k_is)
    (case aSy => k_is)
    (case lSy => k_is)
    (case cSy => k_is)
    (case kSy => k_is)
    (case aWl => k_is)
    (case lWl => k_is)
    (case cWl => k_is)
    (case kWl => k_is)
    (case aSm => k_is)
    (case lSm => k_is)
    (case cSm => k_is)
    (case kSm => k_is)
    (case aNp => k_is)
    (case lNp => k_is)
    (case cNp => k_is)
    (case kNp => k_is)
    (case aNe => k_is)
    (case lNe => k_is)
    (case cNe => k_is)
    (case kNe => k_is)
    (case aSo => k_is)
    (case lSo => k_is)
    (case cSo => k_is)
    (case kSo => k_is)
    (case aSp => k_is)
    (case lSp => k_is)
    (case cSp => k_is)
    (case kSp => k_is)
    (case aWd => k_is)
    (case lWd => k_is)
    (case cWd => k_is)
    (case kWd => k_is)
    (case aPk => k_is)
    (case lPk => k_is)
    (case cPk => k_is)
    (case kPk => k_is)
    (case aNu => k_is)
    (case lNu => k_is)
    (case cNu => k_is)
    (case kNu => k_is)
    (case aRd => k_is)
    (case lRd => k_is)
    (case cRd => k_is)
    (case kRd => k_is)
    (case aSg => k_is)
    (case lSg => k_is)
    (case cSg => k_is)
    (case kSg => k_is)
    (case aLl => k_is)
    (case lLl => k_is)
    (case cLl => k_is)
    (case kLl => k_is)
    (case aTx => k_is)
    (case lTx => k_is)
    (case cTx => k_is)
    (case kTx => k_is)
    (case aHe => k_is)
    (case lHe => k_is)
    (case cHe => k_is)
    (case kHe => k_is)
    (case aBe => k_is)
    (case lBe => k_is)
    (case cBe => k_is)
    (case kBe => k_is)
    (case aTr => k_is)
    (case lTr => k_is)
    (case cTr => k_is)
    (case kTr => k_is)
    (case aPr => k_is)
    (case lPr => k_is)
    (case cPr => k_is)
    (case kPr => k_is)
    (case aLa => k_is)
    (case lLa => k_is)
    (case cLa => k_is)
    (case kLa => k_is)
    (case w1c => rfl)
    (case w1k => k_is)
    (case w1v => rfl)
    (case w1n => first | kernel_rfl | rfl | decide +kernel)
    (case w2c => rfl)
    (case w2k => k_is)
    (case w2v => rfl)
    (case w2n => first | kernel_rfl | rfl | decide +kernel)
    (case wne => decide)
    (case r1 => decide +kernel)
    (case r2 => decide +kernel)
    (case zM1 => k_is)
    (case zM2 => k_is)
    (case zM3 => k_is)
    (case zM4 => k_is)
    (case zM5 => k_is)
    (case aCS => k_is)
    (case bCS => k_is)
    (case dCS => k_is)
    (case tCS => k_is)
    (case aCL => k_is)
    (case xCL => k_is)
    (case vCL => first | rfl | decide +kernel)
    (case saCL => k_is)
    (case gaCL => k_is)
    (case ggCL => k_is)
    (case noCL => k_is)
    (case keCL => k_is)
    (case exCL => k_is)
    (case tyCL => k_is)
    (case hdCL => k_is)
    (case ciCL => k_is)
    (case haCL => k_is)
    (case hmCL => k_is)
    (case suCL => k_is)
    (case kiCL => kit_is)
    (case afLI => k_is)
    (case tfLI => k_is)
    (case lfLI => k_is)
    (case cfLI => k_is)
    (case aCB => k_is)
    (case xCB => k_is)
    (case vCB => first | rfl | decide +kernel)
    (case saCB => k_is)
    (case gaCB => k_is)
    (case ggCB => k_is)
    (case noCB => k_is)
    (case keCB => k_is)
    (case exCB => k_is)
    (case tyCB => k_is)
    (case hdCB => k_is)
    (case ciCB => k_is)
    (case haCB => k_is)
    (case hmCB => k_is)
    (case suCB => k_is)
    (case kiCB => kit_is)
    (case afBI => k_is)
    (case tfBI => k_is)
    (case lfBI => k_is)
    (case cfBI => k_is)
    (case hn => k_is)
    (case ht => k_is)
    (case z_int => k_is)
    (case z_bool => k_is)
    (case z_str => k_is)
    (case z_list => k_is)
    (case z_tuple => k_is)
    (case z_isinstance => k_is)
    (case z_all => k_is)
    (case z_len => k_is)
    (case z_abs => k_is)
    (case z_range => k_is)
    (case z_repr => k_is)
    (case z_set => k_is)
    (case z_sorted => k_is)
    (case kBL => kit_is)

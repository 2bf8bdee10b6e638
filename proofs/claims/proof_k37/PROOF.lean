import PyProof.Rows.All
import Wide.All
import OpenK.AllK
import Wide.FinOn
import HandS.ForMost
import HandS.SetFor
import HandS.IsInst
import HandS.Zip
import HandS.Wide
import HandS.Walk
import KE.SortData
import KE.LtData
import PyProof.ReprRoads
import HandS.Star
import KE.KDictSum
import HandS.Conv
import PySem.Challenge.RW_elsetold_k37_ways_put_and_taken
set_option Elab.async false
set_option linter.all false
set_option maxRecDepth 100000
set_option maxHeartbeats 4000000
/-! Sets whose members are ints and texts: made of a list or a tuple, sorted; sorted lists of alike data. -/
namespace Cry
open PySem PySem.Spec PyProof.Rows L2

/-- the key that a value is -/
def keyV (v : Value) : Key :=
  match v with
  | .int k _ => Sum.inl k
  | .str x _ => Sum.inr x
  | _ => Sum.inl 0
theorem keyV_of {k : Key} {v : Value} (h : keyIs k v = true) : keyV v = k := by
  rcases keyIs_shape h with ⟨i, t, rfl, rfl⟩ | ⟨x, t, rfl, rfl⟩ <;> rfl
theorem keyScan {k : Key} {v : Value} (h : keyIs k v = true) : v.scannable = true := by
  rcases keyIs_shape h with ⟨i, t, rfl, rfl⟩ | ⟨x, t, rfl, rfl⟩ <;> rfl
def Ent (w : World) (e : Int × Value) : Prop := ∃ k, keyIs k e.2 = true ∧ e.1 = keyH w k
/-- the set at a holds just the keys ks; it can be walked -/
def KSet (w : World) (h : Heap) (a : Addr) (ks : List Key) : Prop :=
  ∃ o es ep t, h.get? a = some o ∧ o.ExactSet ∧ o.data = .set es ep t ∧ (∀ e ∈ es.toList, Ent w e) ∧
    (es.toList.map fun e => keyV e.2).Perm ks ∧ ks.Nodup ∧ es.size < scanBound ∧ t.fits es.size = true ∧ Ris t.place.toList ∧
    (w.params.followText "set-order" = true ∨ t.led = true)
/-- whether a key is among some; one key more -/
def hasK (k : Key) (ks : List Key) : Bool := ks.any fun j => decide (j = k)
def moreK (k : Key) (ks : List Key) : List Key := if hasK k ks = true then ks else ks ++ [k]
theorem hasK_iff {k : Key} {ks : List Key} : hasK k ks = true ↔ k ∈ ks := by
  unfold hasK
  rw [List.any_eq_true]
  constructor
  · rintro ⟨j, hj, e⟩
    rw [← of_decide_eq_true e]
    exact hj
  · intro h
    exact ⟨k, h, decide_eq_true rfl⟩
section
variable {P : Program} {w : World} {A : Around} {E : Value → Shared → Prop} {s : Shared} {a : Addr} {ks : List Key}
theorem KSet.at {h h' : Heap} (R : KSet w h a ks) (k : ∀ o, h.get? a = some o → h'.get? a = some o) : KSet w h' a ks := by
  obtain ⟨o, es, ep, t, ho, r⟩ := R
  exact ⟨o, es, ep, t, k o ho, r⟩
theorem ent_elems {l : List (Int × Value)} (g : ∀ e ∈ l, Ent w e) : ElemsOf (mixKind P w) l := fun e he => by
  obtain ⟨k, h1, h2⟩ := g e he
  exact ⟨⟨k, h1, h2⟩, keyScan h1⟩
theorem ent_key {e : Int × Value} (g : Ent w e) (k : Key) : keyIs k e.2 = true ↔ keyV e.2 = k := by
  obtain ⟨k0, h1, _⟩ := g
  constructor
  · exact keyV_of
  · intro z
    rw [keyV_of h1] at z
    rw [← z]
    exact h1
theorem kset_tail {g : Bool → Sem Unit} (hg : ∀ (b : Bool) (s1 : Shared) (Q' : Unit → Shared → Prop), Q' () s1 → wpAny (model P w) A (g b) Q' E s1)
    {o : Obj} {es : Array (Int × Value)} {ep : Nat} {t : SetTable} (ho : s.heap.get? a = some o) (hex : o.ExactSet) (hd : o.data = .set es ep t)
    {es1 : Array (Int × Value)} {t2 : SetTable} {ks' : List Key} (g1 : ∀ e ∈ es1.toList, Ent w e) (p1 : (es1.toList.map fun e => keyV e.2).Perm ks') (nd : ks'.Nodup)
    (hb1 : es1.size < scanBound) (hf2 : t2.fits es1.size = true) (hr : Ris t2.place.toList) (hl : w.params.followText "set-order" = true ∨ t2.led = true) {wd : Bool} {R : Option Bool → Shared → Prop}
    (hR : ∀ h', Heap.SameBut a s.heap h' → KSet w h' a ks' → R (some true) { s with heap := h' }) :
    wpAny (model P w) A (do
        storeSet a es1 t2
        if (!wd && t2.tooFull) = true then do
            g (relayAll t2 es1 (SetTable.grown es1.size)).2.2
            storeSet a (relayAll t2 es1 (SetTable.grown es1.size)).1 (relayAll t2 es1 (SetTable.grown es1.size)).2.1
            pure (some true)
          else pure (some true)) R E s := by
  have st1 := store_at (es' := es1) (t' := t2) ho hd
  have sb := Heap.SameBut.update s.heap a (Obj.putSet es1 t2)
  refine wpAny_bind (wpAny_storeSet_of ho hd ?_ (fits_of_scanBound hb1))
  split
  · obtain ⟨pm, ff, rr, ll⟩ : (relayAll t2 es1 (SetTable.grown es1.size)).1.toList.Perm es1.toList ∧ (relayAll t2 es1 (SetTable.grown es1.size)).2.1.fits (relayAll t2 es1 (SetTable.grown es1.size)).1.size = true ∧
        Ris (relayAll t2 es1 (SetTable.grown es1.size)).2.1.place.toList ∧ (relayAll t2 es1 (SetTable.grown es1.size)).2.1.led = t2.led :=
      ⟨relayAll_perm _ _ _, relayAll_fits _ _ _, relayAll_ris _ _ _, relayAll_led _ _ _⟩
    revert pm ff rr ll
    generalize relayAll t2 es1 (SetTable.grown es1.size) = Z
    obtain ⟨es2, t3, gv⟩ := Z
    intro pm ff rr ll
    dsimp only at pm ff rr ll ⊢
    have sz : es2.size = es1.size := by
      have := pm.length_eq
      simpa using this
    refine wpAny_bind (hg _ _ _ ?_)
    refine wpAny_bind (wpAny_storeSet_of st1 rfl ?_ (fits_of_scanBound (by rw [sz]; exact hb1)))
    have st2 := store_at (es' := es2) (t' := t3) st1 rfl
    refine wpAny_pure (hR _ (sb.trans (Heap.SameBut.update _ a _)) ?_)
    exact ⟨_, es2, _, t3, st2, hex, rfl, fun e he => g1 e (pm.mem_iff.mp he), (pm.map _).trans p1, nd, by rw [sz]; exact hb1, ff, rr, hl.imp id fun z => by rw [ll]; exact z⟩
  · exact wpAny_pure (hR _ sb ⟨_, es1, _, t2, st1, hex, rfl, g1, p1, nd, hb1, hf2, hr, hl⟩)
theorem kset_add {k : Key} {v : Value} {Q : Bool → Shared → Prop} (hk : keyIs k v = true) (R : KSet w s.heap a ks) (room : ks.length + 1 < scanBound)
    (hQ : ∀ h', Heap.SameBut a s.heap h' → KSet w h' a (moreK k ks) → Q (!hasK k ks) { s with heap := h' }) :
    wpAny (model P w) A (setAddHashed a v (keyH w k)) Q E s := by
  obtain ⟨o, es, ep, t, ho, hex, hd, g, pk, nd, hb, hf, hr, hl⟩ := R
  have el : ElemsOf (mixKind P w) es.toList := ent_elems g
  have sc := keyScan hk
  have hk' : (mixKind P w).is k v = true := hk
  have mem : k ∈ ks ↔ ∃ e ∈ es.toList, keyIs k e.2 = true := by
    rw [← pk.mem_iff, List.mem_map]
    exact ⟨fun ⟨e, he, z⟩ => ⟨e, he, (ent_key (g e he) k).2 z⟩, fun ⟨e, he, z⟩ => ⟨e, he, (ent_key (g e he) k).1 z⟩⟩
  unfold setAddHashed setAddHashedIn
  refine wpAny_holding (wpAny_bind (wpAny_setState_of ho hd hf ?_))
  dsimp only
  rw [byScan_of sc hb el]
  simp only [↓reduceIte]
  unfold setAddByScan
  refine wpAny_bind ?_
  refine wpAny_bind (wpAny_rule ?_)
  refine wpAny_bind (wpAny_setScan_of (knd := mixKind P w) hk' ho hd hf el ?_)
  cases fi : List.findIdx? (fun e => (mixKind P w).is k e.2) es.toList with
  | some j =>
    dsimp only
    obtain ⟨hj, pj, _⟩ := List.findIdx?_eq_some_iff_getElem.mp fi
    have m : hasK k ks = true := hasK_iff.2 (mem.2 ⟨es.toList[j], List.getElem_mem hj, pj⟩)
    refine wpAny_pure (wpAny_pure ?_)
    have q := hQ s.heap (Heap.SameBut.refl a s.heap) (by unfold moreK; rw [if_pos m]; exact ⟨o, es, ep, t, ho, hex, hd, g, pk, nd, hb, hf, hr, hl⟩)
    rw [m] at q
    exact q
  | none =>
    dsimp only
    have m : ¬ k ∈ ks := fun z => by
      obtain ⟨e, he, c⟩ := mem.1 z
      have d := List.findIdx?_eq_none_iff.mp fi e he
      exact absurd (c.symm.trans d) (by decide)
    have gw : ∀ (b : Bool) {s1 : Shared} {Q' : Unit → Shared → Prop}, Q' () s1 → wpAny (model P w) A (match b with | true => rule "set.scan.the-table-gave-way" | false => pure ()) Q' E s1 :=
      fun b s1 Q' q => by cases b <;> first | exact wpAny_pure q | exact wpAny_rule q
    obtain ⟨pm, f1, r1, l1⟩ : (layNew t es ((mixKind P w).hash k) v).1.toList.Perm (es.push ((mixKind P w).hash k, v)).toList ∧ (layNew t es ((mixKind P w).hash k) v).2.1.fits (layNew t es ((mixKind P w).hash k) v).1.size = true ∧
        Ris (layNew t es ((mixKind P w).hash k) v).2.1.place.toList ∧ (layNew t es ((mixKind P w).hash k) v).2.1.led = t.led :=
      ⟨layNew_perm _ _ _ _, layNew_fits _ _ _ _, layNew_ris _ _ _ _ hr, layNew_led _ _ _ _⟩
    revert pm f1 r1 l1
    show _ → _ → _ → _ → wpAny (model P w) A _ _ E s
    have eh : (mixKind P w).hash k = keyH w k := rfl
    rw [eh]
    generalize layNew t es (keyH w k) v = Z
    obtain ⟨es1, t1, wd, gv⟩ := Z
    intro pm f1 r1 l1
    dsimp only at pm f1 r1 l1 ⊢
    rw [Array.toList_push] at pm
    have g1 : ∀ e ∈ es1.toList, Ent w e := fun e he => by
      rcases List.mem_append.mp (pm.mem_iff.mp he) with z | z
      · exact g e z
      · rw [List.mem_singleton.mp z]
        exact ⟨k, hk, rfl⟩
    have p1 : (es1.toList.map fun e => keyV e.2).Perm (ks ++ [k]) := by
      have q := pm.map (fun e : Int × Value => keyV e.2)
      rw [List.map_append] at q
      refine q.trans ?_
      show ((es.toList.map fun e => keyV e.2) ++ [keyV v]).Perm _
      rw [keyV_of hk]
      exact pk.append_right _
    have nd1 : (ks ++ [k]).Nodup := by
      rw [List.nodup_append]
      refine ⟨nd, by simp, fun x hx y hy e => ?_⟩
      rw [List.mem_singleton.mp hy] at e
      exact m (e ▸ hx)
    have sz : es1.size = ks.length + 1 := by
      have := p1.length_eq
      simpa using this
    have hb1 : es1.size < scanBound := by rw [sz]; exact room
    have led1 : w.params.followText "set-order" = true ∨ t1.led = true := hl.imp id fun z => by rw [l1]; exact z
    have fin : ∀ h', Heap.SameBut a s.heap h' → KSet w h' a (ks ++ [k]) → Q true { s with heap := h' } := fun h' sb r => by
      have mf : hasK k ks = false := by
        cases z : hasK k ks with
        | false => rfl
        | true => exact absurd (hasK_iff.1 z) m
      have q := hQ h' sb (by unfold moreK; rw [mf]; exact r)
      rw [mf] at q
      exact q
    refine wpAny_bind (gw _ ?_)
    split
    · refine wpAny_bind ?_
      rw [hashByValue_scannable 8 sc]
      refine wpAny_pure ?_
      refine kset_tail ?_ ho hex hd g1 p1 nd1 hb1 ?_ ?_ ?_ ?_
      · intro b s1 Q' q; cases b <;> first | exact wpAny_pure q | exact wpAny_rule q
      · first | (split <;> first | exact f1 | exact SetTable.fits_plain_off f1) | exact f1
      · first | (split <;> exact r1) | exact r1
      · first | (split <;> exact led1) | exact led1
      · intro h' sb r; dsimp only; exact wpAny_pure (fin h' sb r)
    · refine wpAny_bind (wpAny_pure ?_)
      simp only [↓reduceIte]
      refine kset_tail ?_ ho hex hd g1 p1 nd1 hb1 f1 r1 led1 ?_
      · intro b s1 Q' q; cases b <;> first | exact wpAny_pure q | exact wpAny_rule q
      · intro h' sb r; dsimp only; exact wpAny_pure (fin h' sb r)
end

/-! ### set(xs) of a list or a tuple of ints and texts -/
def dedK (ks : List Key) : List Key := ks.foldl (fun acc k => moreK k acc) []
theorem dedK_snoc (ks : List Key) (k : Key) : dedK (ks ++ [k]) = moreK k (dedK ks) := by
  unfold dedK
  rw [List.foldl_append]
  rfl
theorem moreK_len (k : Key) (ks : List Key) : (moreK k ks).length ≤ ks.length + 1 := by
  unfold moreK
  split
  · omega
  · simp
theorem foldK_len : ∀ (l acc : List Key), (l.foldl (fun acc k => moreK k acc) acc).length ≤ acc.length + l.length
  | [], acc => by simp
  | k :: l, acc => by
    have ih := foldK_len l (moreK k acc)
    have m := moreK_len k acc
    rw [List.foldl_cons, List.length_cons]
    omega
theorem dedK_len (ks : List Key) : (dedK ks).length ≤ ks.length := by
  have := foldK_len ks []
  simpa [dedK] using this
theorem moreK_mem {j k : Key} {ks : List Key} : j ∈ moreK k ks ↔ j ∈ ks ∨ j = k := by
  unfold moreK
  split
  · rename_i h
    have := hasK_iff.1 h
    constructor
    · exact .inl
    · rintro (z | z)
      · exact z
      · rw [z]; exact this
  · simp
theorem foldK_mem {j : Key} : ∀ (l acc : List Key), j ∈ l.foldl (fun acc k => moreK k acc) acc ↔ j ∈ acc ∨ j ∈ l
  | [], acc => by simp
  | k :: l, acc => by
    rw [List.foldl_cons, foldK_mem l, moreK_mem, List.mem_cons, or_assoc]
theorem dedK_mem {j : Key} {ks : List Key} : j ∈ dedK ks ↔ j ∈ ks := by
  unfold dedK
  rw [foldK_mem]
  simp
theorem moreK_nodup {k : Key} {ks : List Key} (h : ks.Nodup) : (moreK k ks).Nodup := by
  unfold moreK
  split
  · exact h
  · rename_i hn
    rw [List.nodup_append]
    refine ⟨h, by simp, fun x hx y hy e => ?_⟩
    rw [List.mem_singleton.mp hy] at e
    exact hn (hasK_iff.2 (e ▸ hx))
theorem dedK_nodup (ks : List Key) : (dedK ks).Nodup := by
  unfold dedK
  suffices h : ∀ (l acc : List Key), acc.Nodup → (l.foldl (fun acc k => moreK k acc) acc).Nodup from h ks [] List.nodup_nil
  intro l
  induction l with
  | nil => exact fun acc h => h
  | cons k l ih => exact fun acc h => ih _ (moreK_nodup h)
/-- nothing comes twice: all of them -/
theorem dedK_same : ∀ {ks : List Key}, ks.Nodup → dedK ks = ks := by
  intro ks h
  suffices g : ∀ (l acc : List Key), (acc ++ l).Nodup → l.foldl (fun acc k => moreK k acc) acc = acc ++ l by
    have := g ks [] (by simpa using h)
    simpa [dedK] using this
  intro l
  induction l with
  | nil => intro acc _; simp
  | cons k l ih =>
    intro acc hn
    rw [List.foldl_cons]
    have hk : hasK k acc = false := by
      cases z : hasK k acc with
      | false => rfl
      | true =>
        exfalso
        rw [List.nodup_append] at hn
        exact hn.2.2 k (hasK_iff.1 z) k List.mem_cons_self rfl
    have e : moreK k acc = acc ++ [k] := by unfold moreK; rw [hk]; rfl
    rw [e, ih]
    · simp
    · simpa using hn
abbrev freshSet (w : World) : Obj := { cls := .type "set", dict := none, data := .set #[] 0 (.fresh 0 0 (!w.params.followText "set-order")) }
theorem kset_fresh {w : World} {h : Heap} {a : Addr} (ho : h.get? a = some (freshSet w)) : KSet w h a [] :=
  ⟨_, #[], 0, _, ho, ⟨rfl, rfl, rfl⟩, rfl, (fun e he => by simp at he), (by simp), List.nodup_nil, (by decide), (by rfl), List.Pairwise.nil, by
    show _ ∨ (!w.params.followText "set-order") = true
    cases w.params.followText "set-order"
    · exact .inr rfl
    · exact .inl rfl⟩
/-- the values stand for the keys -/
abbrev KeysAre : List Key → List Value → Prop := Paired fun k v => keyIs k v = true
theorem KeysAre.at : ∀ {ks : List Key} {us : List Value} (i : Nat) (v : Value), KeysAre ks us → us[i]? = some v → ∃ k, ks[i]? = some k ∧ keyIs k v = true
  | _, _, i, v, .nil, e => by simp at e
  | _, _, 0, v, .cons r _, e => by
    simp at e
    subst e
    exact ⟨_, rfl, r⟩
  | _, _, i + 1, v, .cons _ t, e => by
    obtain ⟨k, h1, h2⟩ := KeysAre.at i v t (by simpa using e)
    exact ⟨k, by simpa using h1, h2⟩
section
variable {P : Program} {w : World} {A : Around} {E : Value → Shared → Prop} {s : Shared}
theorem kset_update {I : Addr} {fp wr : List Addr} {G : Array GenState → Array GenState → Prop} {n : Nat} {Pv : Nat → Value → Prop} {St : Nat → Shared → Prop} {R : Result → Shared → Prop}
    (W : WalksS P w A.in1 I fp wr G n Pv St) (S : Addr) (hSf : S ∉ fp) (ks : List Key) (hn : n = ks.length) (hb : ks.length + 1 < scanBound) (hval : ∀ i v, Pv i v → ∃ k, ks[i]? = some k ∧ keyIs k v = true) :
    ∀ (m i : Nat) (s : Shared), n - i = m → i ≤ n → St i s → KSet w s.heap S (dedK (ks.take i)) →
      (∀ s', Moved (S :: wr) G s s' → KSet w s'.heap S (dedK ks) → R (.ok (.ret .none)) s') →
      codeAny (model P w) A (.builtin "set.update.loop" ⟨[.ref S, .ref I], []⟩) R s := by
  have nw : S ∉ wr := fun h => hSf (W.sub _ h)
  have up : ∀ b ∈ wr, b ∈ S :: wr := fun b hb => List.mem_cons_of_mem _ hb
  intro m
  induction m with
  | zero =>
    intro i s em hi st hS hR
    obtain rfl : i = n := by omega
    refine codeAny_builtin F.entry_set_update_loop ?_
    rw [Around.under_plainId F.plain_set_update_loop _]
    show wpAny _ A.in1 (pyNext (.ref I) >>= _) _ _ s
    refine wpAny_bind (W.done s _ _ st fun s' mv => ?_)
    show wpAny _ A.in1 (ret Value.none) _ _ s'
    rw [List.take_of_length_le (by omega)] at hS
    exact wpAny_pure (hR s' (mv.mono up) (hS.at fun o e => mv.heap S o nw e))
  | succ m ih =>
    intro i s em hi st hS hR
    have lt : i < n := by omega
    refine codeAny_builtin F.entry_set_update_loop ?_
    rw [Around.under_plainId F.plain_set_update_loop _]
    show wpAny _ A.in1 (pyNext (.ref I) >>= _) _ _ s
    refine wpAny_bind (W.item i s _ _ lt st fun v s' hP st' mv => ?_)
    obtain ⟨k, ek, hk⟩ := hval i v hP
    have hS1 : KSet w s'.heap S (dedK (ks.take i)) := hS.at fun o e => mv.heap S o nw e
    show wpAny _ A.in1 (holding [v] (setAdd S v) >>= _) _ _ s'
    refine wpAny_bind (wpAny_holding ?_)
    unfold setAdd
    refine wpAny_holding ?_
    refine wpAny_bind ((mixKind P w).pyHash (k := k) hk ?_)
    have ln : (dedK (ks.take i)).length ≤ i := Nat.le_trans (dedK_len _) (by rw [List.length_take]; omega)
    refine kset_add (s := { s' with toks := s'.toks + 1 }) hk hS1 (by omega) fun h' sb hS2 => ?_
    have e2 : moreK k (dedK (ks.take i)) = dedK (ks.take (i + 1)) := by
      rw [List.take_add_one, ek]
      exact (dedK_snoc _ _).symm
    rw [e2] at hS2
    refine wpAny_pure ⟨plainId_quiet F.plain_set_update_loop _, ih (i + 1) _ (by omega) lt (W.frame _ s' _ _ st' (Nat.le_succ _) fun b hb o e => ?_) hS2 fun s2 mv2 hS3 => ?_⟩
    · rw [sb.2 b (fun z : b = S => hSf (z ▸ hb))]
      exact e
    · refine hR s2 (Moved.trans W.gtrans ((mv.mono up).then_heap (Nat.le_succ _) fun b o hb e => ?_) mv2) hS3
      rw [sb.2 b (fun z : b = S => hb (z ▸ List.mem_cons_self))]
      exact e

set_option maxHeartbeats 3200000 in
theorem call_set_list {l : Addr} {items : Array Value} {ks : List Key} {Q : Value → Shared → Prop} (hh : A.handled = none) (hl : s.heap.IsList l items) (hk : KeysAre ks items.toList) (hb : ks.length + 1 < scanBound)
    (h : ∀ (h' : Heap) (tk : Nat), KSet w h' s.heap.objs.size (dedK ks) → (∀ b o, s.heap.get? b = some o → h'.get? b = some o) → Q (.ref s.heap.objs.size) { s with heap := h', toks := tk }) :
    wpAny (model P w) A (call (.type "set") [.ref l]) Q E s := by
  have hsz : items.size = ks.length := by
    rw [← Array.length_toList]
    exact (Paired.length hk).symm
  obtain ⟨c, tl, hmro⟩ := F.called_set.mro
  have hmade := F.called_set.made
  have hsub := F.called_set.sub
  refine wpAny_call (codeAny_of_tree ?_)
  show wpAny _ _ (callAny (.type "set") _) _ _ _
  refine wpAny_pure ⟨Code.quiet_builtin _ (by decide +kernel), codeAny_builtin F.entry_type_call ?_⟩
  rw [Around.under_plain (weight_type_call_type "set" [.ref l] []) rfl]
  have h1 := F.called_set.notType
  have h2 := F.called_set.canCreate
  have hct := F.typeCall_set_1 (.ref l)
  repeat (any_goals (first | assumption | wp_step))
  refine codeAny_mono (code_set_led1 (.ref l) (E := E) (Q₁ := fun ob s1 => ob = .ref s.heap.objs.size ∧ s1 = { s with heap := s.heap.push (freshSet w) }) ⟨rfl, rfl⟩) fun r s1 hr => ?_
  cases r with
  | error e => exact hr
  | ok fl =>
    cases fl with
    | ret ob =>
      obtain ⟨rfl, rfl⟩ := hr
      have hS : (s.heap.push (freshSet w)).get? s.heap.objs.size = some (freshSet w) := Heap.get?_push_size _ rfl
      have hT : Shared.TypeIs { s with heap := s.heap.push (freshSet w) } (.ref s.heap.objs.size) "set" := ⟨_, hS, rfl⟩
      have hli := F.called_set.init.lookup
      have hbi := F.called_set.init.bind (.ref s.heap.objs.size)
      repeat (any_goals (first | assumption | wp_step))
      refine codeAny_mono (codeAny_call_builtin (R := wants (fun r s2 => r = .none ∧ ∃ h' tk, s2 = { s with heap := h', toks := tk } ∧ KSet w h' s.heap.objs.size (dedK ks) ∧
          (∀ b o, s.heap.get? b = some o → h'.get? b = some o)) E) F.called_set.init.plain F.entry_set_init (check_set_init_1 hT ?_)) fun r2 s2 hr2 => ?_
      · obtain ⟨ol, hol, hcl, nl, hdl⟩ := hl
        obtain ⟨ocls, odict, odata, oslots⟩ := ol
        simp only at hcl hdl
        subst hcl; subst hdl
        have hol' : (s.heap.push (freshSet w)).get? l = some { cls := .type "list", dict := odict, data := .seq items nl, slots := oslots } := Heap.get?_push_of_some _ hol
        have hsls := F.sub_list_set
        have hslf := F.sub_list_frozenset
        have hne : (Value.type "list" == Value.type "dict") = false := by decide
        have hl1 : (s.heap.push (freshSet w)).IsList l items := ⟨_, hol', rfl, nl, rfl⟩
        unfold Builtin.«set.__init__» noKeywords Builtin.Frozenset.updateFrom
        generalize hPI : pyIter = PI
        wp_walk
        subst hPI
        refine wpAny_pyIter_list hl1 ?_
        refine wpAny_bind (wpAny_runValue ?_)
        have lS : l < s.heap.objs.size := Heap.lt_size hol
        have hh3 : A.in1.in1.in1.handled = none := by simp [hh]
        have nI : l ≠ (s.heap.push (freshSet w)).objs.size := by
          rw [Heap.size_push]
          exact Nat.ne_of_lt (Nat.lt_succ_of_lt lS)
        have sF : s.heap.objs.size ∉ [(s.heap.push (freshSet w)).objs.size, l] := by
          rw [Heap.size_push]
          simp only [List.mem_cons, List.mem_singleton, List.not_mem_nil, or_false, not_or]
          exact ⟨Nat.ne_of_lt (Nat.lt_succ_self _), Nat.ne_of_gt lS⟩
        refine kset_update ((Walks.list hh3 _ l nI items).toS) s.heap.objs.size sF ks hsz hb (fun i v hv => KeysAre.at i v hk (by rw [Array.getElem?_toList]; exact hv)) (items.size - 0) 0 _ (by omega) (Nat.zero_le _)
          ⟨⟨_, Heap.get?_push_size _ rfl, rfl, rfl⟩, (hl1.push _)⟩ ?z0 ?zR
        case z0 =>
          rw [List.take_zero]
          exact kset_fresh (Heap.get?_push_of_some _ hS)
        case zR =>
          intro s' mv hS'
          obtain ⟨h', g2, d', tk', os'⟩ := s'
          have eg : g2 = s.gens := mv.gens
          have ed : d' = s.drawn := mv.drawn
          have eo : os' = s.os := mv.os
          subst eg; subst ed; subst eo
          show wpAny _ _ _ _ _ _
          refine wpAny_pure ?_
          show wpAny _ _ (ret Value.none) _ _ _
          refine wpAny_pure ⟨rfl, h', tk', rfl, hS', fun b o e => ?_⟩
          have b0 : b < s.heap.objs.size := Heap.lt_size e
          refine mv.heap b o ?_ (Heap.get?_push_of_some _ (Heap.get?_push_of_some _ e))
          simp only [List.mem_cons, List.mem_singleton, List.not_mem_nil, or_false, not_or]
          refine ⟨Nat.ne_of_lt b0, ?_⟩
          rw [Heap.size_push]
          exact Nat.ne_of_lt (Nat.lt_succ_of_lt b0)
      · cases r2 with
        | error e => exact hr2
        | ok fl2 =>
          cases fl2 with
          | ret r =>
            obtain ⟨rfl, h', tk, rfl, hS', kp⟩ := hr2
            repeat (any_goals (first | assumption | wp_step))
            exact h _ _ hS' kp
          | _ => exact hr2.elim
    | _ => exact hr.elim

set_option maxHeartbeats 3200000 in
theorem call_set_tup {l : Addr} {items : Array Value} {ks : List Key} {Q : Value → Shared → Prop} (hh : A.handled = none) (hl : s.heap.IsTuple l items) (hk : KeysAre ks items.toList) (hb : ks.length + 1 < scanBound)
    (h : ∀ (h' : Heap) (tk : Nat), KSet w h' s.heap.objs.size (dedK ks) → (∀ b o, s.heap.get? b = some o → h'.get? b = some o) → Q (.ref s.heap.objs.size) { s with heap := h', toks := tk }) :
    wpAny (model P w) A (call (.type "set") [.ref l]) Q E s := by
  have hsz : items.size = ks.length := by
    rw [← Array.length_toList]
    exact (Paired.length hk).symm
  obtain ⟨c, tl, hmro⟩ := F.called_set.mro
  have hmade := F.called_set.made
  have hsub := F.called_set.sub
  refine wpAny_call (codeAny_of_tree ?_)
  show wpAny _ _ (callAny (.type "set") _) _ _ _
  refine wpAny_pure ⟨Code.quiet_builtin _ (by decide +kernel), codeAny_builtin F.entry_type_call ?_⟩
  rw [Around.under_plain (weight_type_call_type "set" [.ref l] []) rfl]
  have h1 := F.called_set.notType
  have h2 := F.called_set.canCreate
  have hct := F.typeCall_set_1 (.ref l)
  repeat (any_goals (first | assumption | wp_step))
  refine codeAny_mono (code_set_led1 (.ref l) (E := E) (Q₁ := fun ob s1 => ob = .ref s.heap.objs.size ∧ s1 = { s with heap := s.heap.push (freshSet w) }) ⟨rfl, rfl⟩) fun r s1 hr => ?_
  cases r with
  | error e => exact hr
  | ok fl =>
    cases fl with
    | ret ob =>
      obtain ⟨rfl, rfl⟩ := hr
      have hS : (s.heap.push (freshSet w)).get? s.heap.objs.size = some (freshSet w) := Heap.get?_push_size _ rfl
      have hT : Shared.TypeIs { s with heap := s.heap.push (freshSet w) } (.ref s.heap.objs.size) "set" := ⟨_, hS, rfl⟩
      have hli := F.called_set.init.lookup
      have hbi := F.called_set.init.bind (.ref s.heap.objs.size)
      repeat (any_goals (first | assumption | wp_step))
      refine codeAny_mono (codeAny_call_builtin (R := wants (fun r s2 => r = .none ∧ ∃ h' tk, s2 = { s with heap := h', toks := tk } ∧ KSet w h' s.heap.objs.size (dedK ks) ∧
          (∀ b o, s.heap.get? b = some o → h'.get? b = some o)) E) F.called_set.init.plain F.entry_set_init (check_set_init_1 hT ?_)) fun r2 s2 hr2 => ?_
      · obtain ⟨ol, hol, hcl, nl, hdl⟩ := hl
        obtain ⟨ocls, odict, odata, oslots⟩ := ol
        simp only at hcl hdl
        subst hcl; subst hdl
        have hol' : (s.heap.push (freshSet w)).get? l = some { cls := .type "tuple", dict := odict, data := .seq items nl, slots := oslots } := Heap.get?_push_of_some _ hol
        have hsls := F.sub_tuple_set
        have hslf := F.sub_tuple_frozenset
        have hne : (Value.type "tuple" == Value.type "dict") = false := by decide
        have hl1 : (s.heap.push (freshSet w)).IsTuple l items := ⟨_, hol', rfl, nl, rfl⟩
        unfold Builtin.«set.__init__» noKeywords Builtin.Frozenset.updateFrom
        generalize hPI : pyIter = PI
        wp_walk
        subst hPI
        refine wpAny_pyIter_tuple hl1 ?_
        refine wpAny_bind (wpAny_runValue ?_)
        have lS : l < s.heap.objs.size := Heap.lt_size hol
        have hh3 : A.in1.in1.in1.handled = none := by simp [hh]
        have nI : l ≠ (s.heap.push (freshSet w)).objs.size := by
          rw [Heap.size_push]
          exact Nat.ne_of_lt (Nat.lt_succ_of_lt lS)
        have sF : s.heap.objs.size ∉ [(s.heap.push (freshSet w)).objs.size, l] := by
          rw [Heap.size_push]
          simp only [List.mem_cons, List.mem_singleton, List.not_mem_nil, or_false, not_or]
          exact ⟨Nat.ne_of_lt (Nat.lt_succ_self _), Nat.ne_of_gt lS⟩
        refine kset_update ((Walks.tuple hh3 _ l nI items).toS) s.heap.objs.size sF ks hsz hb (fun i v hv => KeysAre.at i v hk (by rw [Array.getElem?_toList]; exact hv)) (items.size - 0) 0 _ (by omega) (Nat.zero_le _)
          ⟨⟨_, Heap.get?_push_size _ rfl, rfl, rfl⟩, (hl1.push _)⟩ ?z0 ?zR
        case z0 =>
          rw [List.take_zero]
          exact kset_fresh (Heap.get?_push_of_some _ hS)
        case zR =>
          intro s' mv hS'
          obtain ⟨h', g2, d', tk', os'⟩ := s'
          have eg : g2 = s.gens := mv.gens
          have ed : d' = s.drawn := mv.drawn
          have eo : os' = s.os := mv.os
          subst eg; subst ed; subst eo
          show wpAny _ _ _ _ _ _
          refine wpAny_pure ?_
          show wpAny _ _ (ret Value.none) _ _ _
          refine wpAny_pure ⟨rfl, h', tk', rfl, hS', fun b o e => ?_⟩
          have b0 : b < s.heap.objs.size := Heap.lt_size e
          refine mv.heap b o ?_ (Heap.get?_push_of_some _ (Heap.get?_push_of_some _ e))
          simp only [List.mem_cons, List.mem_singleton, List.not_mem_nil, or_false, not_or]
          refine ⟨Nat.ne_of_lt b0, ?_⟩
          rw [Heap.size_push]
          exact Nat.ne_of_lt (Nat.lt_succ_of_lt b0)
      · cases r2 with
        | error e => exact hr2
        | ok fl2 =>
          cases fl2 with
          | ret r =>
            obtain ⟨rfl, h', tk, rfl, hS', kp⟩ := hr2
            repeat (any_goals (first | assumption | wp_step))
            exact h _ _ hS' kp
          | _ => exact hr2.elim
    | _ => exact hr.elim
end
end Cry
/-! sorted of a set of keys; sorted of alike data; < and == of data; a list unpacked. -/
namespace Cry
open PySem PySem.Spec PyProof.Rows L2
section
variable {P : Program} {w : World} {A : Around} {E : Value → Shared → Prop} {s : Shared}

/-! ### sorted of such a set -/
def encK : Key → PyData
  | .inl i => .int i
  | .inr x => .str x
/-- all ints or all texts -/
def OneKind (ks : List Key) : Prop := (∀ k ∈ ks, ∃ i, k = Sum.inl i) ∨ ∀ k ∈ ks, ∃ x, k = Sum.inr x
theorem OneKind.perm {ks ls : List Key} (h : OneKind ks) (p : ls.Perm ks) : OneKind ls :=
  h.imp (fun z k hk => z k (p.mem_iff.mp hk)) fun z k hk => z k (p.mem_iff.mp hk)
theorem OneKind.alike {ks : List Key} (h : OneKind ks) : PySem.W.AllAlike (ks.map encK) := by
  intro d hd d' hd'
  obtain ⟨k, hk, rfl⟩ := List.mem_map.mp hd
  obtain ⟨k', hk', rfl⟩ := List.mem_map.mp hd'
  rcases h with h | h
  · obtain ⟨i, rfl⟩ := h k hk
    obtain ⟨j, rfl⟩ := h k' hk'
    rfl
  · obtain ⟨i, rfl⟩ := h k hk
    obtain ⟨j, rfl⟩ := h k' hk'
    rfl
theorem encK_sortable (ks : List Key) : PySem.W.Sortable (ks.map encK) := .inr fun d hd => by
  obtain ⟨k, _, rfl⟩ := List.mem_map.mp hd
  cases k <;> exact ⟨nofun, nofun⟩
theorem reads_key {h : Heap} {k : Key} {v : Value} (e : keyIs k v = true) : ∃ as, Reads h v (encK k) as := by
  rcases keyIs_shape e with ⟨i, t, rfl, rfl⟩ | ⟨x, t, rfl, rfl⟩
  · exact ⟨_, Reads.int i t⟩
  · exact ⟨_, Reads.str x t⟩
theorem sorted_kset {a : Addr} {ks : List Key} {Q : Value → Shared → Prop} (R : KSet w s.heap a ks) (hh : A.handled = none) (ok : OneKind ks) (hu : A.units + 8 < cLine)
    (hQ : ∀ s' p (out : List Value) (c : Nat) (ls : List Key), (∀ b o, s.heap.get? b = some o → s'.heap.get? b = some o) → s'.gens = s.gens → s'.os = s.os → s.heap.objs.size ≤ p →
      s'.heap.get? p = some (seqObj "list" out.toArray c) → KeysAre ls out → ls.Perm ks → ls.Pairwise (fun x y => PySem.W.dataLe false encK x y = true) → Q (.ref p) s') :
    wpAny (model P w) A (call (.builtin "sorted") [.ref a]) Q E s := by
  obtain ⟨o, es, ep, t, ho, hex, hd, g, pk, nd, hb, hf, hr, hl⟩ := R
  refine Calls.call_function_entry kind_sorted plain_sorted entry_sorted (args_sorted1 _) ?_
  unfold Builtin.«sorted»
  refine wpAny_bind (m := checkCount "sorted" 1 1 _) (wpAny_pure ?_)
  refine wpAny_bind (collect_set (A := A.in1) hh ⟨o, ho, hex.1, hd⟩ hf hb hr hl fun s1 vs k1 hz g1 o1 pm => ?_)
  have lv : vs.length = es.size := by
    rw [pm.length_eq, List.length_map, Array.length_toList]
  have lz : vs.length ≤ sizeLine := by rw [lv]; exact fits_of_scanBound hb
  have pv : (vs.map keyV).Perm ks := by
    have q := pm.map keyV
    rw [List.map_map] at q
    exact q.trans pk
  have each : PySem.W.EachIs (fun (v : Value) (k : Key) => keyIs k v = true) vs (vs.map keyV) := by
    have q := PySem.W.EachIs.of (R := fun (v : Value) (k : Key) => keyIs k v = true) (zs := vs.map fun v => (v, keyV v)) fun p hp => by
      obtain ⟨v, hv, rfl⟩ := List.mem_map.mp hp
      obtain ⟨e, he, rfl⟩ := List.mem_map.mp (pm.mem_iff.mp hv)
      obtain ⟨k, h1, _⟩ := g e he
      show keyIs (keyV e.2) e.2 = true
      rw [keyV_of h1]
      exact h1
    simpa [List.map_map, Function.comp_def] using q
  refine wpAny_bind (wpAny_newList ?_ lz)
  have hoL : (s1.heap.push (seqObj "list" vs.toArray 0)).get? s1.heap.objs.size = some (seqObj "list" vs.toArray 0) := Heap.get?_push_size _ rfl
  have okv : OneKind (vs.map keyV) := ok.perm pv
  refine wpAny_bind (wpAny_holding ?_)
  refine PySem.W.list_sort_data (s := { s1 with heap := s1.heap.push (seqObj "list" vs.toArray 0) }) (enc := encK) hoL each (each.mono fun v k e => ?_) okv.alike (encK_sortable _) (by rw [List.length_map]; exact lz) (fun k _ => ?_) fun out hlen hout => ?_
  · rcases keyIs_shape e with ⟨i, t, rfl, rfl⟩ | ⟨x, t, rfl, rfl⟩
    · exact ⟨_, Reads.int i t, by simp⟩
    · exact ⟨_, Reads.str x t, by simp⟩
  · have d0 : (encK k).depth = 0 := by cases k <;> rfl
    rw [d0]
    show A.units + 1 + 1 + 0 < cLine
    omega
  · obtain ⟨c, hc⟩ := sortedHeap_at (vs := vs) (out := out.toArray) hoL
    have pr : ((vs.map keyV).mergeSort (PySem.W.dataLe false encK)).Perm ks := (List.mergeSort_perm _ _).trans pv
    have kk : KeysAre ((vs.map keyV).mergeSort (PySem.W.dataLe false encK)) out := by
      generalize (vs.map keyV).mergeSort (PySem.W.dataLe false encK) = ls at hout
      clear pr hlen hc
      induction hout with
      | nil => exact .nil
      | cons r _ ih => exact .cons r ih
    refine wpAny_pure ⟨_, rfl, hQ { s1 with heap := sortedHeap (s1.heap.push (seqObj "list" vs.toArray 0)) s1.heap.objs.size vs out.toArray } s1.heap.objs.size out c _ (fun b u e => ?_) g1 o1 hz hc kk pr ?_⟩
    · have q := k1 b u e
      have lt := Heap.lt_size q
      show (sortedHeap (s1.heap.push (seqObj "list" vs.toArray 0)) s1.heap.objs.size vs out.toArray).get? b = some u
      rw [sortedHeap_old (Nat.ne_of_lt lt) (by rw [size_push']; exact Nat.lt_succ_of_lt lt)]
      exact Heap.get?_push_of_some _ q
    · exact PySem.W.sort_pairwise (PySem.W.sortLe_total _ _ _) _
end
end Cry
/-! The layer, further: defs that know that no repr is under way; repr, sorted, < of data; lists unpacked; sets of keys at the layer. -/
namespace Cry
open PySem PySem.Spec PyProof.Rows L2

/-! ### defs within which repr may be asked -/
structure FnG (P : Program) (w : World) (K : PySem.W.Frag) (mg : Str → Option Value) (base : Heap) (CX : CXT) (k : Nat) (f : Addr) (fd : FuncData) (ps : List Str) (sp : Sp) : Prop where
  len : ∀ vs H Q E, sp vs H Q E → vs.length = ps.length
  run : ∀ (A : Around) (outer : List Env) (s : Shared) (H : Hp) (args : Args) (us : List Value) (vs : List V) (Q : VK) (E : XK), A.guards = some [] → Room k A → Env0 P w K mg base A outer s H → BindsTo s fd args (ps.zip us) → Vals vs us → sp vs H Q E →
    codeAny (model P w) A (.call (.ref f) args) (CR CX outer P w H s Q E) s
theorem FnG.mono {P : Program} {w : World} {K : PySem.W.Frag} {mg : Str → Option Value} {base : Heap} {CX : CXT} {j k : Nat} {f : Addr} {fd : FuncData} {ps : List Str} {sp : Sp} (F : FnG P w K mg base CX j f fd ps sp) (h : j ≤ k) : FnG P w K mg base CX k f fd ps sp :=
  ⟨F.len, fun A outer s H args us vs Q E hg hr => F.run A outer s H args us vs Q E hg (hr.mono h)⟩
theorem deeper_guards (A : Around) (env : Env) : (A.deeper env).guards = A.guards := rfl
section
variable {P : Program} {w : World} {K : PySem.W.Frag} {mg : Str → Option Value} {base : Heap}
theorem okG {x qual : Str} {st : Stmt} {f : Addr} {fd : FuncData} {N ps : List Str} {k : Nat} {sp : Sp} (F : Fun K x qual st f fd) (S : FnScope N ps (defScope st)) (len : ∀ vs H Q E, sp vs H Q E → vs.length = ps.length)
    (body : ∀ (cdv : Value) (A : Around) (outer : List Env) (s : Shared) (H : Hp) (vs : List V) (Q : VK) (E : XK), A.guards = some [] → Room k (A.deeper (envOfC qual (defScope st) s.heap.objs.size f cdv)) → sp vs H Q E →
      ∃ t, PSs (cxOf CX0 P w K mg base N qual (defScope st) f cdv A outer s H E).nox (defBody st) t ∧ t { nx := fun _ H' => Q .non H', rt := Q } (start N vs) H) : FnG P w K mg base CX0 (k + 1) f fd ps sp := by
  obtain ⟨oc, od, kV, doc, pm, an, cdv, ct, osl, rfl, lk, hcd⟩ := F.ex
  refine ⟨len, fun A outer s H args us vs Q E hg hr e0 hb r hsp => ?_⟩
  have hl := len _ _ _ _ hsp
  have kin : K.In s.heap := e0.mod.kin.keeps fun b o e => (e0.bs b o e).1
  have nolim : s.heap.NoLimit := e0.mod.nolimit.keeps fun b o e => (e0.bs b o e).1
  have kinds : ∀ y ∈ ps.zip us, (defScope st).names.lookup y.1 = some .local ∨ ((defScope st).names.lookup y.1 = some .cell ∧ ((cellsFrom (s.heap.objs.size + 1) (defScope st).names []).lookup y.1).isSome = true) := by
    rintro ⟨n, v⟩ hy
    rcases S.par n (List.of_mem_zip hy).1 with q | q
    · exact .inl q
    · exact .inr ⟨q, PySem.W.cellsFrom_some _ _ _ (.inl q)⟩
  refine codeAny_call_function hr.depth (kin _ _ lk) rfl S.co S.gen rfl (PySem.W.codeRec_of kin hcd) (hb _ _ _ _ ?_)
  refine wpAny_newFunctionEnv_cells S.kind kinds fun env he s1 y => ?_
  subst he
  refine ⟨nolim.keeps y.toInCall.keep, codeAny_func ?_⟩
  obtain ⟨t, ht, hq⟩ := body cdv A outer s H vs Q E hg (hr.deeper _) hsp
  have J0 := inv_start (CX := CX0) (E := E) S hr.hd e0 hl r y
  refine wpAny_mono (ht.nox.run [] s1 (start N vs) H _ J0 hq) (fun fl s' z => ?_) fun e s' z => z
  cases fl with
  | ret u =>
    obtain ⟨v, σ', H', J, rv, q⟩ := z
    exact ⟨v, H', J.os, J.bare, J.base, J.hok, rv, q⟩
  | next =>
    obtain ⟨σ', H', J, q⟩ := z
    exact ⟨V.non, H', J.os, J.bare, J.base, J.hok, rfl, q⟩
  | brk =>
    obtain ⟨_, _, _, q⟩ := z
    exact False.elim q
  | cont =>
    obtain ⟨_, _, _, q⟩ := z
    exact False.elim q
end
/-! ### a call of such a def -/
section
variable {X : Cx} {CX : CXT} {k : Nat} {f : Addr} {fd : FuncData} {ps : List Str} {sp : Sp} {dvs : List V} {ds : List Value} {E : XK} {x : Str} {p pos : Pos} {e : Expr} {es : List Expr} {t : TA}
theorem runG {pins : List (Addr × Obj)} {σ : L2.St} {H : Hp} {s : Shared} {Q : VK} {us : List Value} {vs : List V} (F : FnG X.prog X.w X.K X.mg X.base CX k f fd ps sp) (hg : X.A.guards = some []) (hr : Room k X.A) (hb : Binds X.K fd ps ds) (hd : Vals dvs ds) (hx : Passes CX X E)
    (I : Inv X pins σ H s) (r : Vals vs us) (h : sp (vs ++ dvs) H Q E) : wpAny (model X.prog X.w) X.A (call (.ref f) us) (EP X pins σ Q) X.xe s := by
  have rr : Vals (vs ++ dvs) (us ++ ds) := r.append hd
  have hl : (us ++ ds).length = ps.length := by
    rw [← rr.length]
    exact F.len _ _ _ _ h
  refine wpAny_call (codeAny_mono (F.run X.A X.stack s H ⟨us, []⟩ (us ++ ds) (vs ++ dvs) Q E hg hr I.env0 (hb s us I.kIn hl) rr h) fun z s' hq => ?_)
  cases z with
  | error e => exact hx pins σ H s e s' I hq
  | ok fl =>
    cases fl with
    | ret u => exact I.after hq
    | next => exact False.elim hq
    | brk => exact False.elim hq
    | cont => exact False.elim hq
theorem pe_callG (F : FnG X.prog X.w X.K X.mg X.base CX k f fd ps sp) (hgd : X.A.guards = some []) (hr : Room k X.A) (hg : Gl X x) (hm : X.mg x = some (.ref f)) (hk : PySem.W.keepIn X.K (.ref f) = true) (hb : Binds X.K fd ps ds) (hd : Vals dvs ds) (hx : Passes CX X E)
    (ha : PA X (e :: es) t) (hdb : (x == ("__debug__" : Str)) = false := by decide) (he : starEach (e :: es) X.env = (false, eval e X.env) :: starEach es X.env := by rfl) (hpl : (backTo pos (starEach es X.env)).any (·.1) = false := by rfl) :
    PE X (.Call (.Name x p) (e :: es) [] pos) (tCall sp dvs E t) := by
  refine ⟨fun pins s σ H Q I h => ?_⟩
  refine wpAny_Call_Name_kw (ld_glob I hg hm ?_ hdb)
  refine PySem.W.callWith_K (h₀ := X.base) I.ok.mod.kin hk (thn (ha.run pos pins s σ H _ I h) fun us s1 ⟨vs, H1, I1, r, q⟩ => ⟨I1.kIn, ?_⟩) he hpl
  exact runG F hgd hr hb hd hx I1 r q
end

/-! ### the head: the law's promise at the heap behind the top -/
theorem law_callG {P : Program} {w : World} {K : PySem.W.Frag} {mg mb : Str → Option Value} {k : Nat} {fa a : Addr} {fd : FuncData} {x : Str} {sp : Sp} {s1 : Shared} {vs : List Value} {ns : List Int}
    (KX : K.In s1.heap) (hns : s1.heap.Ns mainGlobals mg) (hb : s1.heap.Ns builtinsNs mb) (hbb : ∀ x : Str, x ≠ "__name__" → mb x = bootBuiltins x) (hlim : s1.heap.NoLimit) (hg : s1.gens = #[])
    (ha : s1.heap.get? a = some { cls := .type "list", data := .seq vs.toArray }) (hi : IntsAre vs ns) (hl : ns.length ≤ sizeLine) (hr : Room k callerA)
    (F : ∀ base : Heap, K.In base → base.Ns mainGlobals mg → FnG P w K mg base CX0 k fa fd [x] sp) (hbind : ∀ (s : Shared) (u : Value), BindsTo s fd ⟨[u], []⟩ [(x, u)])
    (hsp : ∀ H : Hp, Only H → SqL K H a (ns.map V.int) → sp [.ref a] H (fun v _ => v = .bl true) fun _ _ _ => False) :
    codeAny (model P w) callerA (.call (.ref fa) ⟨[.ref a], []⟩) (fun r s' => r = .ok (.ret (.bool true)) ∧ OldK s1.heap s'.heap ∧ s'.os = s1.os ∧ AllBare s'.gens) s1 := by
  have rv := vals_ints hi
  have lv := hi.length
  have core : ∀ H : Hp, Only H → SqL K H a (ns.map V.int) → HOk P w H s1.heap → (∀ b, H b ≠ none → b = a) → (H a ≠ none → K.lookup a = none) →
      codeAny (model P w) callerA (.call (.ref fa) ⟨[.ref a], []⟩) (fun r s' => r = .ok (.ret (.bool true)) ∧ OldK s1.heap s'.heap ∧ s'.os = s1.os ∧ AllBare s'.gens) s1 := by
    intro H hO hS hok hA hK
    have free : ∀ {b : Addr} {o : Obj} {es : Array DictEntry} {ep : Nat}, s1.heap.get? b = some o → o.data = .dict es ep → H b = none := by
      intro b o es ep e d
      cases q : H b with
      | none => rfl
      | some u =>
        obtain rfl := hA b (by rw [q]; simp)
        rw [ha] at e
        cases e
        exact nomatch (show Data.seq vs.toArray _ = Data.dict es ep from d)
    have ns1 : ∀ {b : Addr} {m : Str → Option Value}, s1.heap.Ns b m → (hidT s1.heap H).Ns b m := fun {b m} ⟨o, es, ep, e, d, r⟩ => ⟨o, es, ep, hidT_get e (free e d), d, r⟩
    have kb : K.In (hidT s1.heap H) := fun b o e => hidT_get (KX b o e) (by
      cases q : H b with
      | none => rfl
      | some u =>
        obtain rfl := hA b (by rw [q]; simp)
        rw [hK (by rw [q]; simp)] at e
        cases e)
    have md : Mod K mg (hidT s1.heap H) := ⟨kb, ns1 hns, ⟨mb, ns1 hb, hbb⟩, let ⟨mc, h1, h2⟩ := hlim; ⟨mc, ns1 h1, h2⟩⟩
    have e0 : Env0 P w K mg (hidT s1.heap H) callerA [] s1 H := ⟨rfl, md, fun b o e => of_hidT e, Nat.le_of_eq (hidT_size _ _), trivial, fun b hb => absurd (show b ∈ ([] : List Addr) from hb) (by simp), hok, .of_eq hg⟩
    refine codeAny_mono ((F _ kb (ns1 hns)).run callerA [] s1 H ⟨[.ref a], []⟩ [.ref a] [.ref a] _ _ rfl hr e0 (hbind s1 (.ref a)) (.cons rfl .nil) (hsp H hO hS)) fun r s' h => ?_
    cases r with
    | error e =>
      have h' : CX0 [] H s1 (fun _ _ _ => False) e s' := h
      exact h'.elim
    | ok fl =>
      cases fl with
      | next => exact False.elim h
      | brk => exact False.elim h
      | cont => exact False.elim h
      | ret u =>
        obtain ⟨v, H', os, bare, un, hok', r', q⟩ := h
        obtain rfl : v = .bl true := q
        obtain rfl : u = Value.bool true := r'
        refine ⟨rfl, OldK.of_keep fun b o e => ?_, os, bare⟩
        cases q : H b with
        | none => exact un.keep b o e q (by intro z; exact absurd (show b ∈ ([] : List Addr) from z) (by simp)) (by simp)
        | some u =>
          rcases hO b with z | ⟨ob, xs, z⟩
          · rw [q] at z
            cases z
          · obtain ⟨e1, _⟩ := hok b _ z
            obtain ⟨e2, _⟩ := hok' b _ (un.frzs b ob _ z)
            rw [e] at e1
            cases e1
            exact e2
  cases hk : K.lookup a with
  | some o =>
    have e := KX a o hk
    rw [ha] at e
    cases e
    refine core (fun _ => none) (fun _ => .inl rfl) (.inr ⟨_, vs.toArray, _, hk, rfl, rfl, rfl, by rw [List.size_toArray, lv]; exact hl, by simpa using rv⟩) (fun b u z => nomatch (show (none : Option HO) = some u from z)) (fun b z => absurd rfl z) fun z => absurd rfl z
  | none =>
    have tr : ∀ b, (if b = a then some (HO.frz { cls := .type "list", data := .seq vs.toArray } (.lst (ns.map V.int))) else none) ≠ none → b = a := fun b z => by
      by_cases hb : b = a
      · exact hb
      · exact absurd (if_neg hb) z
    refine core (fun b => if b = a then some (.frz { cls := .type "list", data := .seq vs.toArray } (.lst (ns.map V.int))) else none) (fun b => ?_) (.inl (.inr ⟨{ cls := .type "list", data := .seq vs.toArray }, if_pos rfl⟩)) (fun b u z => ?_) tr fun _ => hk
    · by_cases hb : b = a
      · exact .inr ⟨_, _, if_pos hb⟩
      · exact .inl (if_neg hb)
    · have hb : b = a := tr b (by rw [show (if b = a then some (HO.frz { cls := .type "list", data := .seq vs.toArray } (.lst (ns.map V.int))) else none) = some u from z]; simp)
      subst hb
      cases (if_pos rfl).symm.trans z
      exact ⟨ha, by rw [List.length_map]; exact hl, vs, _, rv, ha⟩
theorem walkG {l : PySem.W.OpenLaw} {n k : Nat} {q : Program} {loose : List Str} {XP : (Str → Option Value) → Heap → Prop} {YP : World → Heap → Prop} {d : DefRec} {K : Params → PySem.W.Frag} {sp : World → Sp} {x : Str}
    (hn : l.most = some n) (hn2 : n ≤ sizeLine) (hdf : d.params.defaults = []) (hr : Room k callerA)
    (hY : ∀ (w : World) (h : Heap), YP w h → (K w.params).In h)
    (F : ∀ (w : World) (mg : Str → Option Value) (fa : Addr) (h : Heap), (K w.params).In h → h.Ns mainGlobals mg → mg d.name = some (.ref fa) →
      ∃ fd : FuncData, (∀ (s : Shared) (u : Value), BindsTo s fd ⟨[u], []⟩ [(x, u)]) ∧
        ∀ base : Heap, (K w.params).In base → base.Ns mainGlobals mg → FnG l.prog w (K w.params) mg base CX0 k fa fd [x] (sp w))
    (hsp : ∀ (w : World) (H : Hp) (a : Addr) (ns : List Int), ns.length ≤ n → Only H → SqL (K w.params) H a (ns.map V.int) → sp w [.ref a] H (fun v _ => v = .bl true) fun _ _ _ => False) :
    PySem.W.WalkO q loose XP YP l.row.toRowW d [] (fun f vs => PySem.call f vs) := by
  refine Att.attach_call hn hdf fun w s0 s1 mg mb fa o pm cd doc a vs ns G Y ho hd hcd hmg hobj hints hlen hg => ?_
  obtain ⟨fd, hb, hF⟩ := F w mg fa _ (hY w _ Y) G.T.g hmg
  exact law_callG (hY w _ Y) G.T.g G.T.b G.T.builtins G.T.nolimit hg hobj hints (Nat.le_trans hlen hn2) hr hF hb fun H hO hS => hsp w H a ns hlen hO hS
end Cry
/-! Rules at the layer: set and sorted of keys; sorted, <, repr of data; a list unpacked; items of a list or a tuple. -/
namespace Cry
open PySem PySem.Spec PyProof.Rows L2
abbrev Slots := L2.St

/-! ### set(xs), sorted(set) -/
/-- a set of keys that stands at a -/
def KO (w : World) (a : Addr) (ks : List Key) : HO := .ext fun h => KSet w h a ks
theorem kO_new {P : Program} {w : World} {H : Hp} {h : Heap} {a : Addr} {ks : List Key} (R : KSet w h a ks) : ObjOk P w H h a (KO w a ks) := by
  refine ⟨R, ?_, fun h1 h2 r k => r.at k⟩
  obtain ⟨o, _, _, _, ho, _⟩ := R
  exact ⟨o, ho⟩
section
variable {X : Cx} {pins : List (Addr × Obj)} {σ : Slots} {H : Hp} {s : Shared}
theorem kO_get {a : Addr} {ks : List Key} (I : Inv X pins σ H s) (ha : H a = some (KO X.w a ks)) : KSet X.w s.heap a ks := (I.hok a _ ha).1
theorem keys_vals : ∀ {ks : List Key} {us : List Value}, Vals (ks.map kV) us → KeysAre ks us
  | [], us, r => by
    cases r
    exact .nil
  | k :: ks, us, r => by
    cases r with
    | cons h t =>
      refine .cons ?_ (keys_vals t)
      cases k with
      | inl i =>
        obtain ⟨t, rfl⟩ := h
        exact keyIs_int i t
      | inr x =>
        obtain ⟨t, rfl⟩ := h
        exact keyIs_str x t
theorem vals_keys : ∀ {ks : List Key} {us : List Value}, KeysAre ks us → Vals (ks.map kV) us
  | _, _, .nil => .nil
  | _, _, .cons h t => by
    refine .cons ?_ (vals_keys t)
    rcases keyIs_shape h with ⟨i, t, rfl, rfl⟩ | ⟨x, t, rfl, rfl⟩
    · exact ⟨t, rfl⟩
    · exact ⟨t, rfl⟩
/-- set(xs), xs a list or a tuple of ints and texts -/
def rSetK (K : PySem.W.Frag) (w : World) : List V → Hp → VK → Prop := fun vs H Q => ∃ (a : Addr) (ks : List Key), vs = [V.ref a] ∧ (SqL K H a (ks.map kV) ∨ SqT K H a (ks.map kV)) ∧ ks.length + 1 < scanBound ∧
  ∀ p, H p = none → Q (.ref p) (upd H p (KO w p (dedK ks)))
theorem cr_setK (hc : X.calm = true) : CallR X (.type "set") (rSetK X.K X.w) := by
  intro pins s σ H vs us Q I r h
  obtain ⟨a, ks, rfl, hs, hz, q⟩ := h
  rw [Vals.ref1 r]
  have fin : ∀ (h' : Heap) (tk : Nat), KSet X.w h' s.heap.objs.size (dedK ks) → (∀ b o, s.heap.get? b = some o → h'.get? b = some o) → EP X pins σ Q (.ref s.heap.objs.size) { s with heap := h', toks := tk } := fun h' tk R kp =>
    ⟨.ref s.heap.objs.size, _, I.laid (t' := tk) kp (Nat.le_refl _) (kO_new R), rfl, q _ (I.hok.fresh (Nat.le_refl _))⟩
  rcases hs with hs | hs
  · obtain ⟨its, rv, pl, _⟩ := I.list hs
    exact call_set_list (I.ok.hd hc) pl.isList (keys_vals (by simpa using rv)) hz fin
  · obtain ⟨its, rv, pt, _⟩ := I.tuple hs
    exact call_set_tup (I.ok.hd hc) pt (keys_vals (by simpa using rv)) hz fin
/-- sorted of a set of keys of one kind -/
def rSortedK (w : World) : List V → Hp → VK → Prop := fun vs H Q => ∃ (a : Addr) (ks : List Key), vs = [V.ref a] ∧ H a = some (KO w a ks) ∧ OneKind ks ∧
  ∀ (ls : List Key) (p : Addr), ls.Perm ks → ls.Pairwise (fun x y => PySem.W.dataLe false encK x y = true) → H p = none → Q (.ref p) (upd H p (.lst (ls.map kV)))
theorem cr_sortedK (hc : X.calm = true) (hu : X.A.units + 64 < cLine) : CallR X (.builtin "sorted") (rSortedK X.w) := by
  intro pins s σ H vs us Q I r h
  obtain ⟨a, ks, rfl, ha, ok, q⟩ := h
  have R := kO_get I ha
  rw [Vals.ref1 r]
  have lk : ks.length ≤ sizeLine := by
    obtain ⟨o, es, ep, t, _, _, _, _, pk, _, hb, _⟩ := id R
    have := pk.length_eq
    rw [List.length_map, Array.length_toList] at this
    rw [← this]
    exact fits_of_scanBound hb
  refine sorted_kset R (I.ok.hd hc) ok (by omega) fun s' p out c ls k g o hp hat hk pm so => ?_
  have hn : H p = none := I.hok.fresh hp
  have J : Inv X pins σ (upd H p (.lst (ls.map kV))) { s with heap := s'.heap, gens := s'.gens, drawn := s'.drawn, toks := s'.toks } :=
    I.call (ch := []) (Un.laid k hp hn) (I.hok.laid k hp ⟨by rw [List.length_map, pm.length_eq]; exact lk, out, c, vals_keys hk, hat⟩) (by rw [g]; exact I.bare) (fun _ z => nomatch z)
  have e : s' = { s with heap := s'.heap, gens := s'.gens, drawn := s'.drawn, toks := s'.toks } := by
    cases s'
    cases s
    cases o
    rfl
  rw [e]
  exact ⟨.ref p, _, J, rfl, q ls p pm so hn⟩

/-! ### data: values with what they stand for -/
/-- each value stands for its datum -/
def Dps (K : PySem.W.Frag) (H : Hp) (bs : List (V × PyData)) : Prop := ∀ b ∈ bs, Dp K H b.1 b.2
/-- sorted(xs), xs a list of alike data: the very same values, in their order -/
def rSortedD (K : PySem.W.Frag) : List V → Hp → VK → Prop := fun vs H Q => ∃ (a : Addr) (bs : List (V × PyData)), vs = [V.ref a] ∧ SqL K H a (bs.map Prod.fst) ∧ Dps K H bs ∧
  PySem.W.AllAlike (bs.map Prod.snd) ∧ PySem.W.Sortable (bs.map Prod.snd) ∧ (∀ b ∈ bs, b.2.depth ≤ 20) ∧
  ∀ p, H p = none → Q (.ref p) (upd H p (.lst ((bs.mergeSort (PySem.W.dataLe false Prod.snd)).map Prod.fst)))
theorem each_vals : ∀ {bs : List (V × PyData)} {us : List Value}, Vals (bs.map Prod.fst) us → PySem.W.EachIs (fun (v : Value) (b : V × PyData) => RelV b.1 v) us bs
  | [], us, r => by
    cases r
    exact .nil
  | b :: bs, us, r => by
    cases r with
    | cons h t => exact .cons h (each_vals t)
theorem vals_each : ∀ {bs : List (V × PyData)} {us : List Value}, PySem.W.EachIs (fun (v : Value) (b : V × PyData) => RelV b.1 v) us bs → Vals (bs.map Prod.fst) us
  | _, _, .nil => .nil
  | _, _, .cons h t => .cons h (vals_each t)
theorem each_reads (I : Inv X pins σ H s) : ∀ {bs : List (V × PyData)} {us : List Value}, Dps X.K H bs → PySem.W.EachIs (fun (v : Value) (b : V × PyData) => RelV b.1 v) us bs →
    PySem.W.EachIs (fun (v : Value) (b : V × PyData) => ∃ as, Reads s.heap v b.2 as) us bs
  | _, _, _, .nil => .nil
  | b :: bs, _, d, .cons h t => .cons (Dp.reads I b.2 b.1 _ (d b List.mem_cons_self) h) (each_reads I (fun c hc => d c (List.mem_cons_of_mem _ hc)) t)
theorem cr_sortedD (hu : X.A.units + 64 < cLine) : CallR X (.builtin "sorted") (rSortedD X.K) := by
  intro pins s σ H vs us Q I r h
  obtain ⟨a, bs, rfl, hs, hd, al, so, dp, q⟩ := h
  rw [Vals.ref1 r]
  obtain ⟨its, rv, pl, lz⟩ := I.list hs
  have ea := each_vals rv
  rw [List.length_map] at lz
  refine PySem.W.sorted_data (enc := Prod.snd) pl.isList ea (each_reads I hd ea) al so lz (fun b hb => ?_) fun out hl ho => ?_
  · have := dp b hb
    omega
  · obtain ⟨e, hat⟩ := sortedAll_at s.heap its out.toArray
    have hp : s.heap.objs.size ≤ s.heap.objs.size + 1 := Nat.le_succ _
    have new : ObjOk X.prog X.w (upd H (s.heap.objs.size + 1) (.lst ((bs.mergeSort (PySem.W.dataLe false Prod.snd)).map Prod.fst))) (sortedAll s.heap its out.toArray) (s.heap.objs.size + 1) (.lst ((bs.mergeSort (PySem.W.dataLe false Prod.snd)).map Prod.fst)) :=
      ⟨by rw [List.length_map, List.length_mergeSort]; exact lz, out, e, vals_each ho, hat⟩
    exact ⟨.ref (s.heap.objs.size + 1), _, I.laid (t' := s.toks) (fun b u z => sortedAll_old z) hp new, rfl, q _ (I.hok.fresh hp)⟩
/-- x < y of alike data -/
def rLtD (K : PySem.W.Frag) : R2 := fun x y H Q => ∃ d e, Dp K H x d ∧ Dp K H y e ∧ PySem.W.alike d e = true ∧ d ≠ .none ∧ d.depth ≤ 20 ∧ Q (.bl (PySem.W.dataLt d e)) H
theorem op_ltD (hu : X.A.units + 64 < cLine) : OpR X (compareOp .Lt) (rLtD X.K) := by
  intro pins s σ H x y v u Q I rx ry h
  obtain ⟨d, e, hd, he, al, nn, dp, q⟩ := h
  obtain ⟨as, r1⟩ := Dp.reads I d x v hd rx
  obtain ⟨bs, r2⟩ := Dp.reads I e y u he ry
  exact PySem.W.rcLt_alike d e X.A s v u as bs r1 r2 al nn (by omega) _ _ _ _ ⟨.bl _, H, I, rfl, q⟩
/-- repr of data that has no dict in it, where no repr is under way -/
def rReprD (K : PySem.W.Frag) : List V → Hp → VK → Prop := fun vs H Q => ∃ (x : V) (d : PyData), vs = [x] ∧ Dp K H x d ∧ d.depth ≤ 20 ∧ d.shown.length ≤ sizeLine ∧ (∀ i, d = .int i → i.natAbs.log2 < 1920) ∧ Q (.str d.shown) H
end
end Cry
/-! repr of data; a list unpacked; a walk over a list or a tuple. -/
namespace Cry
open PySem PySem.Spec PyProof.Rows L2

/-! ### repr -/
mutual
theorem dp_nodict {K : PySem.W.Frag} {H : Hp} : ∀ (d : PyData) (v : V), Dp K H v d → d.hasDict = false
  | .none, _, _ => by simp only [PyData.hasDict]
  | .bool _, _, _ => by simp only [PyData.hasDict]
  | .int _, _, _ => by simp only [PyData.hasDict]
  | .str _, _, _ => by simp only [PyData.hasDict]
  | .list ds, _, h => by
    cases h with
    | lst _ ha =>
      simp only [PyData.hasDict]
      exact dps_nodict ds _ ha
  | .tuple ds, _, h => by
    cases h with
    | tup _ ha =>
      simp only [PyData.hasDict]
      exact dps_nodict ds _ ha
  | .dict _, _, h => by cases h
theorem dps_nodict {K : PySem.W.Frag} {H : Hp} : ∀ (ds : List PyData) (vs : List V), DpAll K H vs ds → PyData.hasDictAll ds = false
  | [], _, _ => by simp only [PyData.hasDictAll]
  | d :: ds, _, h => by
    cases h with
    | cons h1 h2 => simp only [PyData.hasDictAll, dp_nodict d _ h1, dps_nodict ds _ h2, Bool.or_self]
end
section
variable {X : Cx} {pins : List (Addr × Obj)} {σ : Slots} {H : Hp} {s : Shared}
/-- repr(x), where no repr is under way -/
def rRepr (K : PySem.W.Frag) : List V → Hp → VK → Prop := fun vs H Q => ∃ (x : V) (d : PyData), vs = [x] ∧ Dp K H x d ∧ d.depth ≤ 20 ∧ d.shown.length ≤ sizeLine ∧ d.showable = true ∧ Q (.str d.shown) H
theorem cr_repr (hg : X.A.guards = some []) (hu : X.A.units + 64 < cLine) : CallR X (.builtin "repr") (rRepr X.K) := by
  intro pins s σ H vs us Q I r h
  obtain ⟨x, d, rfl, hd, dp, sz, sh, q⟩ := h
  obtain ⟨u, rfl, ru⟩ := vals1 r
  have nd := dp_nodict d x hd
  obtain ⟨as, rd⟩ := Dp.reads I d x u hd ru
  cases d with
  | none =>
    cases rd
    exact P.repr_of_none ⟨.str _, H, I.tok _, ⟨_, rfl⟩, q⟩
  | bool b =>
    cases rd
    exact P.repr_of_bool ⟨.str _, H, I.tok _, ⟨_, rfl⟩, q⟩
  | int i =>
    cases rd with
    | int i t => exact P.repr_of_int (by simpa [PyData.showable] using sh) ⟨.str _, H, I.tok _, ⟨_, rfl⟩, q⟩
  | str y =>
    cases rd with
    | str y t => exact P.repr_of_str ⟨.str _, H, I.tok _, ⟨_, rfl⟩, q⟩ sz
  | list ds =>
    cases hd with
    | lst hs ha =>
      obtain rfl : u = Value.ref _ := ru
      exact repr_of_reads' rd sh (fun z => absurd (nd.symm.trans z) (by decide)) hg (by omega) (fun _ _ e => e) (fun h' u' tk kp => ⟨.str _, H, I.kept (t' := tk) kp, ⟨_, rfl⟩, q⟩) sz
  | tuple ds =>
    cases hd with
    | tup hs ha =>
      obtain rfl : u = Value.ref _ := ru
      exact repr_of_reads' rd sh (fun z => absurd (nd.symm.trans z) (by decide)) hg (by omega) (fun _ _ e => e) (fun h' u' tk kp => ⟨.str _, H, I.kept (t' := tk) kp, ⟨_, rfl⟩, q⟩) sz
  | dict kvs => cases hd

/-! ### a, b = a list -/
end
section
variable {prog : Program} {w : World} {A : Around} {E : Value → Shared → Prop} {s : Shared}
theorem draw_lst {it l : Addr} {items : Array Value} (hne : l ≠ it) : ∀ (n i : Nat) (s : Shared) (Q : List Value → Shared → Prop), s.heap.IsListIter it l i → s.heap.IsList l items → i + n ≤ items.size →
    (∀ h', h'.IsListIter it l (i + n) → Heap.SameBut it s.heap h' → Q ((items.toList.drop i).take n) { s with heap := h' }) → wpAny (model prog w) A (draw (.ref it) n) Q E s
  | 0, i, s, Q, st, _, _, hQ => by
    show wpAny _ _ (pure []) Q E s
    exact wpAny_pure (by simpa using hQ s.heap st (Heap.SameBut.refl ..))
  | n + 1, i, s, Q, st, hl, le, hQ => by
    have lt : i < items.size := by omega
    show wpAny _ _ (pyNext (.ref it) >>= _) Q E s
    refine wpAny_bind (wpAny_pyNext_list_item st hl (x := items[i]) (by simp [lt]) fun h1 st1 sb => ?_)
    have hl1 : h1.IsList l items := by
      obtain ⟨o, ho, hc, nn, hd⟩ := hl
      exact ⟨o, sb.extBut l o hne ho, hc, nn, hd⟩
    refine wpAny_bind (wpAny_holding (draw_lst hne n (i + 1) _ _ st1 hl1 (by omega) fun h2 st2 sb2 => wpAny_pure ?_))
    have q := hQ h2 (by rw [show i + (n + 1) = i + 1 + n by omega]; exact st2) (sb.trans sb2)
    rw [show items.toList.drop i = items[i] :: items.toList.drop (i + 1) by simp [List.drop_eq_getElem_cons, lt], List.take_succ_cons] at q
    exact q
theorem unpackItems_lst {l : Addr} {items : Array Value} {Q : List Value → Shared → Prop} (hh : A.handled = none) (hl : s.heap.IsList l items)
    (hQ : ∀ h', Heap.ExtBut s.heap.objs.size s.heap h' → Q items.toList { s with heap := h' }) : wpAny (model prog w) A (unpackItems (.ref l) items.size none) Q E s := by
  have hne : l ≠ s.heap.objs.size := by
    obtain ⟨o, ho, _⟩ := hl
    exact Nat.ne_of_lt (Heap.lt_size ho)
  have pushed : (s.heap.push { cls := .type "list_iterator", data := .fields #[.ref l, .int 0 0] }).IsList l items := by
    obtain ⟨o, ho, hc, nn, hd⟩ := hl
    exact ⟨o, Heap.get?_push_of_some _ ho, hc, nn, hd⟩
  unfold unpackItems
  refine wpAny_bind ?_
  unfold notIterableAtAll
  refine wpAny_bind (wpAny_specialOf hl.typeIs slot_list_iter.lookup ?_)
  refine wpAny_pure ?_
  simp only [Bool.false_eq_true, if_false]
  refine wpAny_bind (wpAny_holding (wpAny_pyIter_list hl ?_))
  refine wpAny_bind (wpAny_holding (draw_lst hne items.size 0 _ _ ⟨_, Heap.get?_push_size _ rfl, rfl, rfl⟩ pushed (by omega) fun h1 st1 sb => ?_))
  rw [List.drop_zero, List.take_of_length_le (by simp), if_neg (by simp)]
  have hl1 : h1.IsList l items := by
    obtain ⟨o, ho, hc, nn, hd⟩ := pushed
    exact ⟨o, sb.extBut l o hne ho, hc, nn, hd⟩
  refine wpAny_bind (wpAny_holding (wpAny_pyNext_list_end hh st1 hl1 (by simp) fun h2 eb => ?_))
  simp only [Option.isSome_none, Bool.false_eq_true, if_false]
  exact wpAny_pure (hQ h2 fun b o hb e => eb b o hb (sb.extBut b o hb (Heap.get?_push_of_some _ e)))
theorem assign_lst {env : Env} {elts : List Expr} {x1} {pos : Pos} {l : Addr} {items : Array Value} {Q : Unit → Shared → Prop} (hh : A.handled = none) (hl : s.heap.IsList l items)
    (hn : (assignEach elts env).length = items.size) (hst : (assignEach elts env).findIdx? (·.1) = none)
    (h : ∀ h', Heap.ExtBut s.heap.objs.size s.heap h' → wpAny (model prog w) A (assignInOrder ((assignEach elts env).map (·.2)) items.toList) Q E { s with heap := h' }) :
    wpAny (model prog w) A (assign (.Tuple elts x1 pos) env (.ref l)) Q E s := by
  rw [arm_assign_Tuple]
  refine wpAny_bind (wpAny_standAt ?_)
  unfold unpack
  rw [hn, hst]
  exact wpAny_bind (wpAny_holding (unpackItems_lst hh hl h))
end
section
variable {X : Cx}
/-- (a, b, ..) = a list or a tuple of that length -/
def gRow (K : PySem.W.Frag) (n : Nat) (t : TGs) : TG := fun v σ H Q => ∃ a xs, v = .ref a ∧ (SqL K H a xs ∨ SqT K H a xs) ∧ xs.length = n ∧ t xs σ H Q
theorem pg_row {es : List Expr} {k : Nat} {pos : Pos} {t : TGs} {n : Nat} (hc : X.calm = true) (h : PGs X es t)
    (hn : (assignEach es X.env).length = n := by rfl) (hst : (assignEach es X.env).findIdx? (·.1) = none := by rfl) : PG X (.Tuple es k pos) (gRow X.K n t) := by
  refine ⟨fun pins s σ H v u Q I r hw => ?_⟩
  obtain ⟨a, xs, rfl, hq, hl, hw⟩ := hw
  rcases hq with hq | hq
  · cases r
    obtain ⟨its, rv, pl, hz⟩ := I.list hq
    refine assign_lst (I.ok.hd hc) pl.isList (by simp [hn, ← hl, rv.length]) hst fun h' hx => ?_
    have I1 : Inv X pins σ H { s with heap := h' } := I.kept (t' := s.toks) fun b o e => hx b o (Nat.ne_of_lt (Heap.lt_size e)) e
    exact h.run pins _ σ H xs _ Q I1 (by simpa using rv) hw
  · exact (pg_tup hc h hn hst).run pins s σ H (.ref a) u Q I r ⟨a, xs, rfl, hq, hl, hw⟩
/-- a walk over a list or a tuple -/
def iRow (K : PySem.W.Frag) (tl : TE) : TI := fun σ H R => tl σ H fun x H1 => ∃ a, x = .ref a ∧ (((∃ xs, SqL K H1 a xs) ∧ R (Itl K a) H1) ∨ ((∃ xs, SqT K H1 a xs) ∧ R (Itt K a) H1))
theorem pi_row {tg l : Expr} {tl : TE} (hl : PE X l tl) : PI X tg l (iRow X.K tl) := by
  refine ⟨fun pins s σ H R I h => ?_⟩
  refine thn (hl.run pins s σ H _ I h) fun v s1 ⟨x, H1, I1, r1, q1⟩ => ?_
  obtain ⟨a, rfl, q⟩ := q1
  cases r1
  have fp : ∀ b ∈ [s1.heap.objs.size], FpOk X pins H1 b := fun b hb => by
    rw [List.mem_singleton.mp hb]
    exact I1.fpOk (Nat.le_refl _) (I1.hok.fresh (Nat.le_refl _))
  rcases q with ⟨⟨xs, hq⟩, q⟩ | ⟨⟨xs, hq⟩, q⟩
  · obtain ⟨its, rv, p, _⟩ := I1.list hq
    refine wpAny_pyIter_list p.isList ⟨s1.heap.objs.size, [s1.heap.objs.size], _, _, H1, rfl, I1.kept (t' := s1.toks) fun b o e => Heap.get?_push_of_some _ e, turn_list a _, ⟨_, Heap.get?_push_size _ rfl, rfl, rfl⟩, fp, q⟩
  · obtain ⟨its, rv, p, _⟩ := I1.tuple hq
    refine wpAny_pyIter_tuple (show s1.heap.IsTuple a its.toArray from p) ⟨s1.heap.objs.size, [s1.heap.objs.size], _, _, H1, rfl, I1.kept (t' := s1.toks) fun b o e => Heap.get?_push_of_some _ e, turn_tuple a _, ⟨_, Heap.get?_push_size _ rfl, rfl, rfl⟩, fp, q⟩
end
end Cry
/-! Data that never changes (numbers, texts, tuples of such), lists of such; comprehensions. -/
namespace Cry
open PySem PySem.Spec PyProof.Rows L2

/-! ### heaps that go on -/
/-- all but D stays -/
def SameO (D : Addr) (H H' : Hp) : Prop := ∀ b o, b ≠ D → H b = some o → H' b = some o
/-- the tuples stay -/
def TS (H H' : Hp) : Prop := ∀ b xs, H b = some (.tup xs) → H' b = some (.tup xs)
theorem TS.refl (H : Hp) : TS H H := fun _ _ h => h
theorem TS.trans {H H1 H2 : Hp} (a : TS H H1) (b : TS H1 H2) : TS H H2 := fun c xs h => b c xs (a c xs h)
theorem TS.same {H H' : Hp} (s : Same H H') : TS H H' := fun b xs h => s b _ h
theorem TS.sameO {D : Addr} {H H' : Hp} (s : SameO D H H') (n : ∀ xs, H D ≠ some (.tup xs)) : TS H H' := fun b xs h => s b _ (fun e => n xs (e ▸ h)) h
theorem TS.lst {H : Hp} {D : Addr} {xs : List V} {o : HO} (h : H D = some (.lst xs)) : TS H (upd H D o) := fun b ys e => by
  rw [upd_ne (fun z => by rw [z, h] at e; cases e)]
  exact e
theorem TS.new {H : Hp} {D : Addr} {o : HO} (h : H D = none) : TS H (upd H D o) := fun b ys e => by
  rw [upd_ne (ne_of_none e h)]
  exact e
theorem same_new {H : Hp} {D : Addr} {o : HO} (h : H D = none) : Same H (upd H D o) := fun b u e => by
  rw [upd_ne (ne_of_none e h)]
  exact e
/-- what stood ahead of D stays through a store at D -/
theorem same_at {H H1 : Hp} {D : Addr} {o : HO} (s : Same H H1) (h : H D = none) : Same H (upd H1 D o) := fun b u e => by
  rw [upd_ne (ne_of_none e h)]
  exact s b u e
theorem SameO.of {D : Addr} {H H' : Hp} (s : Same H H') : SameO D H H' := fun b o _ e => s b o e
theorem SameO.trans {D : Addr} {H H1 H2 : Hp} (a : SameO D H H1) (b : SameO D H1 H2) : SameO D H H2 := fun c o n e => b c o n (a c o n e)

/-! ### data that never changes -/
mutual
inductive Im (H : Hp) : V → PyData → Prop
  | non : Im H .non .none
  | bl (b : Bool) : Im H (.bl b) (.bool b)
  | int (i : Int) : Im H (.int i) (.int i)
  | str (x : Str) : Im H (.str x) (.str x)
  | tup {a : Addr} {xs : List V} {ds : List PyData} : H a = some (.tup xs) → Ims H xs ds → Im H (.ref a) (.tuple ds)
inductive Ims (H : Hp) : List V → List PyData → Prop
  | nil : Ims H [] []
  | cons {v : V} {vs : List V} {d : PyData} {ds : List PyData} : Im H v d → Ims H vs ds → Ims H (v :: vs) (d :: ds)
end
mutual
theorem Im.on {H H' : Hp} (t : TS H H') : ∀ {v : V} {d : PyData}, Im H v d → Im H' v d
  | _, _, .non => .non
  | _, _, .bl b => .bl b
  | _, _, .int i => .int i
  | _, _, .str x => .str x
  | _, _, .tup h s => .tup (t _ _ h) (Ims.on t s)
theorem Ims.on {H H' : Hp} (t : TS H H') : ∀ {vs : List V} {ds : List PyData}, Ims H vs ds → Ims H' vs ds
  | _, _, .nil => .nil
  | _, _, .cons h s => .cons (Im.on t h) (Ims.on t s)
end
mutual
theorem Im.dp {K : PySem.W.Frag} {H : Hp} : ∀ {v : V} {d : PyData}, Im H v d → Dp K H v d
  | _, _, .non => .non
  | _, _, .bl b => .bl b
  | _, _, .int i => .int i
  | _, _, .str x => .str x
  | _, _, .tup h s => .tup (SqT.of h) (Ims.dp s)
theorem Ims.dp {K : PySem.W.Frag} {H : Hp} : ∀ {vs : List V} {ds : List PyData}, Ims H vs ds → DpAll K H vs ds
  | _, _, .nil => .nil
  | _, _, .cons h s => .cons (Im.dp h) (Ims.dp s)
end
theorem Ims.length {H : Hp} : ∀ {vs : List V} {ds : List PyData}, Ims H vs ds → vs.length = ds.length
  | _, _, .nil => rfl
  | _, _, .cons _ s => by rw [List.length_cons, List.length_cons, Ims.length s]
theorem Ims.get {H : Hp} : ∀ {vs : List V} {ds : List PyData} {i : Nat} {d : PyData}, Ims H vs ds → ds[i]? = some d → ∃ v, vs[i]? = some v ∧ Im H v d
  | _, _, i, _, .nil, e => by simp at e
  | _, _, 0, d, .cons h _, e => by
    simp at e
    subst e
    exact ⟨_, rfl, h⟩
  | _, _, i + 1, d, .cons _ s, e => by
    obtain ⟨v, h1, h2⟩ := Ims.get (i := i) s (by simpa using e)
    exact ⟨v, by simpa using h1, h2⟩
theorem Ims.at {H : Hp} : ∀ {vs : List V} {ds : List PyData} {i : Nat} {v : V}, Ims H vs ds → vs[i]? = some v → ∃ d, ds[i]? = some d ∧ Im H v d
  | _, _, i, _, .nil, e => by simp at e
  | _, _, 0, v, .cons h _, e => by
    simp at e
    subst e
    exact ⟨_, rfl, h⟩
  | _, _, i + 1, v, .cons _ s, e => by
    obtain ⟨d, h1, h2⟩ := Ims.at (i := i) s (by simpa using e)
    exact ⟨d, by simpa using h1, h2⟩
theorem Ims.of {H : Hp} : ∀ {vs : List V} {ds : List PyData}, vs.length = ds.length → (∀ (i : Nat) (v : V) (d : PyData), vs[i]? = some v → ds[i]? = some d → Im H v d) → Ims H vs ds
  | [], [], _, _ => .nil
  | v :: vs, d :: ds, hl, h => .cons (h 0 v d rfl rfl) (Ims.of (by simpa using hl) fun i v' d' e1 e2 => h (i + 1) v' d' (by simpa using e1) (by simpa using e2))
theorem Ims.append {H : Hp} : ∀ {vs ws : List V} {ds es : List PyData}, Ims H vs ds → Ims H ws es → Ims H (vs ++ ws) (ds ++ es)
  | _, _, _, _, .nil, t => t
  | _, _, _, _, .cons h s, t => .cons h (Ims.append s t)
theorem Ims.take {H : Hp} : ∀ {vs : List V} {ds : List PyData} (n : Nat), Ims H vs ds → Ims H (vs.take n) (ds.take n)
  | _, _, 0, _ => .nil
  | _, _, _ + 1, .nil => .nil
  | _, _, n + 1, .cons h s => .cons h (Ims.take n s)
theorem Ims.drop {H : Hp} : ∀ {vs : List V} {ds : List PyData} (n : Nat), Ims H vs ds → Ims H (vs.drop n) (ds.drop n)
  | _, _, 0, s => s
  | _, _, _ + 1, .nil => .nil
  | _, _, n + 1, .cons _ s => Ims.drop n s
theorem Ims.strs {H : Hp} : ∀ xs : List Str, Ims H (xs.map V.str) (xs.map PyData.str)
  | [] => .nil
  | x :: xs => .cons (.str x) (Ims.strs xs)
theorem Ims.ints {H : Hp} : ∀ xs : List Int, Ims H (xs.map V.int) (xs.map PyData.int)
  | [] => .nil
  | x :: xs => .cons (.int x) (Ims.ints xs)
/-- the pairs of values and data -/
theorem Ims.pairs {K : PySem.W.Frag} {H : Hp} {vs : List V} {ds : List PyData} (h : Ims H vs ds) : Dps K H (vs.zip ds) := fun b hb => by
  obtain ⟨i, hi⟩ := List.getElem?_of_mem hb
  obtain ⟨h1, h2⟩ := List.getElem?_zip_eq_some.mp hi
  obtain ⟨d, e, m⟩ := Ims.at h h1
  have := Option.some.inj (e.symm.trans h2)
  rw [← this]
  exact m.dp
/-- v is a list or a tuple that holds xs -/
def Row (K : PySem.W.Frag) (H : Hp) (v : V) (xs : List V) : Prop := ∃ a, v = .ref a ∧ (SqL K H a xs ∨ SqT K H a xs)

/-! ### a comprehension without tests -/
section
variable {J : It} {n : Nat} {G : Hp → Prop} {Y : Nat → Hp → V → Hp → Prop}
/-- Gd: what is known of the heap; R: what is known of the i-th item made; St: a step of the heap that keeps what is known of items -/
theorem lc_gen (w : Walk J n G Y) {g : TG} {te : TE} {vs : List Nat} {σ : Slots} {H1 : Hp} {D : Addr} {Qd : Hp → Prop} (St : Hp → Hp → Prop) (Gd : Nat → Hp → Prop) (R : Nat → V → Hp → Prop) (hn : n ≤ sizeLine)
    (sD : ∀ H acc acc', H D = some (.lst acc) → St H (upd H D (.lst acc'))) (gD : ∀ i H acc acc', H D = some (.lst acc) → Gd i H → Gd i (upd H D (.lst acc')))
    (rS : ∀ j y H H', St H H' → R j y H → R j y H') (g0 : Gd 0 (upd H1 D (.lst []))) (hG : ∀ i H, Gd i H → G H)
    (hs : ∀ i x H H' acc (Z : VK), i < n → Gd i H → H D = some (.lst acc) → Y i H x H' → (∀ y H4, H4 D = some (.lst acc) → St H H4 → Gd (i + 1) H4 → R i y H4 → Z y H4) →
      g x (wipe σ vs) H' fun σ2 H2 => wipe σ2 vs = wipe σ vs ∧ te σ2 H2 Z)
    (hd : ∀ H ys, Gd n H → H D = some (.lst ys) → ys.length = n → (∀ i y, ys[i]? = some y → R i y H) → Qd H) :
    ∃ W : Nat → Nat → Hp → Prop, (∃ m, W 0 m (upd H1 D (.lst []))) ∧ ∀ i m H, W i m H →
      (J.stop i H ∧ Qd H) ∨ (J.go i H ∧ ∃ Nx : Hp → Prop, (∀ H', Nx H' → ∃ m', m' < m ∧ W (i + 1) m' H') ∧ ∀ x H', J.yld i H x H' → g x (wipe σ vs) H' fun σ2 H2 => wipe σ2 vs = wipe σ vs ∧ tYes σ2 H2 fun b H3 =>
        if b = true then te σ2 H3 fun y H4 => ∃ acc, H4 D = some (.lst acc) ∧ acc.length < sizeLine ∧ Nx (upd H4 D (.lst (acc ++ [y]))) else Nx H3) := by
  refine lc_it w (fun i H => Gd i H ∧ ∃ acc, H D = some (.lst acc) ∧ acc.length = i ∧ ∀ j y, acc[j]? = some y → R j y H) ⟨g0, [], upd_same, rfl, fun j y e => by simp at e⟩ (fun i H _ p => hG i H p.1) ?_ ?_
  · rintro i x H H' hi ⟨gd, acc, hacc, hlen, hr⟩ hy
    refine hs i x H H' acc (fun y H4 => ∃ acc, H4 D = some (.lst acc) ∧ acc.length < sizeLine ∧ _) hi gd hacc hy fun y H4 q1 q2 q3 q4 => ?_
    have st := sD H4 acc (acc ++ [y]) q1
    refine ⟨acc, q1, by omega, gD _ _ _ _ q1 q3, acc ++ [y], upd_same, by simp [hlen], fun j z e => ?_⟩
    by_cases hj : j < acc.length
    · rw [List.getElem?_append_left hj] at e
      exact rS _ _ _ _ st (rS _ _ _ _ q2 (hr j z e))
    · rw [List.getElem?_append_right (by omega)] at e
      have e0 : j - acc.length = 0 := by
        cases z0 : j - acc.length with
        | zero => rfl
        | succ k => rw [z0] at e; simp at e
      rw [e0] at e
      simp at e
      subst e
      have ej : j = i := by omega
      subst ej
      exact rS _ _ _ _ st q4
  · rintro H ⟨gd, ys, h1, h2, h3⟩
    exact hd H ys gd h1 h2 h3

/-- .. whose items are plain values f i, while the heap only grows -/
theorem lc_pure (w : Walk J n G Y) {g : TG} {te : TE} {vs : List Nat} {σ : Slots} {H1 : Hp} {D : Addr} {Qd : Hp → Prop} (f : Nat → V) (hn : n ≤ sizeLine) (nD : H1 D = none)
    (hG : ∀ H, Same H1 H → G H) (hY : ∀ i H x H', Y i H x H' → Same H H')
    (hs : ∀ i x H H' (Z : VK), i < n → Same H1 H → Y i H x H' → (∀ H4, Same H' H4 → Z (f i) H4) → g x (wipe σ vs) H' fun σ2 H2 => wipe σ2 vs = wipe σ vs ∧ te σ2 H2 Z)
    (hd : ∀ H, Same H1 H → H D = some (.lst ((List.range n).map f)) → Qd H) :
    ∃ W : Nat → Nat → Hp → Prop, (∃ m, W 0 m (upd H1 D (.lst []))) ∧ ∀ i m H, W i m H →
      (J.stop i H ∧ Qd H) ∨ (J.go i H ∧ ∃ Nx : Hp → Prop, (∀ H', Nx H' → ∃ m', m' < m ∧ W (i + 1) m' H') ∧ ∀ x H', J.yld i H x H' → g x (wipe σ vs) H' fun σ2 H2 => wipe σ2 vs = wipe σ vs ∧ tYes σ2 H2 fun b H3 =>
        if b = true then te σ2 H3 fun y H4 => ∃ acc, H4 D = some (.lst acc) ∧ acc.length < sizeLine ∧ Nx (upd H4 D (.lst (acc ++ [y]))) else Nx H3) := by
  refine lc_gen w (fun _ _ => True) (fun _ H => Same H1 H) (fun i y _ => y = f i) hn (fun _ _ _ _ => True.intro) (fun i H acc acc' _ gd => same_at gd nD) (fun _ _ _ _ _ r => r) (same_new nD) (fun i H gd => hG H gd) ?_ ?_
  · intro i x H H' acc Z hi gd hacc hy k
    have s1 := hY i H x H' hy
    exact hs i x H H' Z hi gd hy fun H4 s2 => k _ _ (s2 _ _ (s1 _ _ hacc)) True.intro ((gd.trans s1).trans s2) rfl
  · intro H ys gd h1 h2 h3
    refine hd H gd ?_
    have e : ys = (List.range n).map f := by
      apply List.ext_getElem?
      intro i
      by_cases hi : i < n
      · rw [List.getElem?_map, List.getElem?_range hi, List.getElem?_eq_getElem (by omega)]
        have := h3 i _ (List.getElem?_eq_getElem (show i < ys.length by omega))
        rw [this]
        rfl
      · rw [List.getElem?_eq_none (by omega), List.getElem?_eq_none (by simp; omega)]
    rw [← e]
    exact h1
theorem yAt_same {xs : List V} : ∀ i H x H', YAt xs i H x H' → Same H H' := fun i H x H' y => by
  rw [y.1]
  exact Same.refl H
theorem yPair_same {a b : Nat → Option V} : ∀ i H x H', YPair a b i H x H' → Same H H' := fun i H x H' y => by
  obtain ⟨T, u, v, _, nT, e, _⟩ := y
  rw [e]
  exact same_new nT
end

/-! ### data of any kind that a call may be handed -/
/-- v stands for d; a dict of any entries stands for a dict -/
inductive Da (H : Hp) : V → PyData → Prop
  | non : Da H .non .none
  | bl (b : Bool) : Da H (.bl b) (.bool b)
  | int (i : Int) : Da H (.int i) (.int i)
  | str (x : Str) (hz : x.length ≤ sizeLine) : Da H (.str x) (.str x)
  | lst {a : Addr} {xs : List V} {ds : List PyData} (h : H a = some (.lst xs)) (hl : xs.length = ds.length) (hi : ∀ (i : Nat) (x : V) (e : PyData), xs[i]? = some x → ds[i]? = some e → Da H x e) : Da H (.ref a) (.list ds)
  | tup {a : Addr} {xs : List V} {ds : List PyData} (h : H a = some (.tup xs)) (hl : xs.length = ds.length) (hi : ∀ (i : Nat) (x : V) (e : PyData), xs[i]? = some x → ds[i]? = some e → Da H x e) : Da H (.ref a) (.tuple ds)
  | dic {a : Addr} {kvs : List (Key × V)} {es : List (PyData × PyData)} (h : H a = some (.dK kvs)) : Da H (.ref a) (.dict es)
section
variable {K : PySem.W.Frag} {H H' : Hp}
theorem sqT_same {a : Addr} {xs : List V} (e : Same H H') (h : SqT K H a xs) : SqT K H' a xs := by
  rcases h with (h | ⟨o, h⟩) | h
  · exact .inl (.inl (e _ _ h))
  · exact .inl (.inr ⟨o, e _ _ h⟩)
  · exact .inr h
theorem Da.on (s : Same H H') {v : V} {d : PyData} (h : Da H v d) : Da H' v d := by
  induction h with
  | non => exact .non
  | bl b => exact .bl b
  | int i => exact .int i
  | str x hz => exact .str x hz
  | lst h hl _ ih => exact .lst (s _ _ h) hl ih
  | tup h hl _ ih => exact .tup (s _ _ h) hl ih
  | dic h => exact .dic (s _ _ h)
mutual
theorem Dp.on (s : Same H H') : ∀ {v : V} {d : PyData}, Dp K H v d → Dp K H' v d
  | _, _, .non => .non
  | _, _, .bl b => .bl b
  | _, _, .int i => .int i
  | _, _, .str x => .str x
  | _, _, .lst h t => .lst (s.seq h) (DpAll.on s t)
  | _, _, .tup h t => .tup (sqT_same s h) (DpAll.on s t)
theorem DpAll.on (s : Same H H') : ∀ {vs : List V} {ds : List PyData}, DpAll K H vs ds → DpAll K H' vs ds
  | _, _, .nil => .nil
  | _, _, .cons h t => .cons (Dp.on s h) (DpAll.on s t)
end
theorem dpAll_len : ∀ {vs : List V} {ds : List PyData}, DpAll K H vs ds → vs.length = ds.length
  | _, _, .nil => rfl
  | _, _, .cons _ t => by rw [List.length_cons, List.length_cons, dpAll_len t]
/-! every text in it is of a length that can be asked; no dict in it -/
mutual
def szD : PyData → Bool
  | .str x => decide (x.length ≤ sizeLine)
  | .list ds => szDs ds
  | .tuple ds => szDs ds
  | _ => true
def szDs : List PyData → Bool
  | [] => true
  | d :: ds => szD d && szDs ds
end
/-- from the items one by one -/
theorem dpAll_of : ∀ {xs : List V} {ds : List PyData}, xs.length = ds.length → (∀ (i : Nat) (x : V) (e : PyData), xs[i]? = some x → ds[i]? = some e → Dp K H x e) → DpAll K H xs ds
  | [], [], _, _ => .nil
  | x :: xs, d :: ds, hl, h => .cons (h 0 x d rfl rfl) (dpAll_of (by simpa using hl) fun i y e h1 h2 => h (i + 1) y e (by simpa using h1) (by simpa using h2))
theorem nodict_mem : ∀ {ds : List PyData} {d : PyData}, PyData.hasDictAll ds = false → d ∈ ds → d.hasDict = false
  | e :: ds, d, h, m => by
    have h' : e.hasDict = false ∧ PyData.hasDictAll ds = false := by simpa [PyData.hasDictAll] using h
    rcases List.mem_cons.mp m with z | z
    · rw [z]
      exact h'.1
    · exact nodict_mem h'.2 z
theorem Da.dp {v : V} {d : PyData} (h : Da H v d) : d.hasDict = false → Dp K H v d := by
  induction h with
  | non => exact fun _ => .non
  | bl b => exact fun _ => .bl b
  | int i => exact fun _ => .int i
  | str x _ => exact fun _ => .str x
  | lst h hl _ ih => exact fun n => .lst (SqL.of h) (dpAll_of hl fun i x e h1 h2 => ih i x e h1 h2 (nodict_mem (by simpa [PyData.hasDict] using n) (List.mem_of_getElem? h2)))
  | tup h hl _ ih => exact fun n => .tup (SqT.of h) (dpAll_of hl fun i x e h1 h2 => ih i x e h1 h2 (nodict_mem (by simpa [PyData.hasDict] using n) (List.mem_of_getElem? h2)))
  | dic h => exact fun n => absurd n (by simp [PyData.hasDict])
/-- the type's name -/
def tyD : PyData → String
  | .none => "NoneType"
  | .bool _ => "bool"
  | .int _ => "int"
  | .str _ => "str"
  | .list _ => "list"
  | .tuple _ => "tuple"
  | .dict _ => "dict"
theorem Da.ty {v : V} {d : PyData} (h : Da H v d) : TyX K H v (.type (tyD d)) := by
  cases h with
  | non => exact .base .non
  | bl b => exact .base (.bl b)
  | int i => exact .base (.int i)
  | str x _ => exact .base (.str x)
  | lst h _ _ => exact .base (.lst h)
  | tup h _ _ => exact .base (.tup h)
  | dic h => exact .base (.dK h)
theorem seq_of {a : Addr} {xs : List V} (h : H a = some (.lst xs) ∨ H a = some (.tup xs)) : SqL K H a xs ∨ SqT K H a xs := h.imp SqL.of SqT.of
/-- whether it is a list or a tuple, and its items -/
def rowD : PyData → Bool
  | .list _ => true
  | .tuple _ => true
  | _ => false
def itemsD : PyData → List PyData
  | .list ds => ds
  | .tuple ds => ds
  | _ => []
theorem Da.items {v : V} {d : PyData} (h : Da H v d) (r : rowD d = true) : ∃ a xs, v = .ref a ∧ (H a = some (.lst xs) ∨ H a = some (.tup xs)) ∧ xs.length = (itemsD d).length ∧
    ∀ (i : Nat) (x : V) (e : PyData), xs[i]? = some x → (itemsD d)[i]? = some e → Da H x e := by
  cases h with
  | lst h hl hi => exact ⟨_, _, rfl, .inl h, hl, hi⟩
  | tup h hl hi => exact ⟨_, _, rfl, .inr h, hl, hi⟩
  | _ => exact absurd r (by simp [rowD])
end
end Cry
/-! Where the defs stand in the text. -/
namespace Cry
open PySem
def topS (i : Nat) : Stmt := PySem.Challenge.pw_elsetold_k37_ways_put_and_taken.main.body.getD i (.Pass ⟨0, 0, 0, 0⟩)
abbrev sIsWhole : Stmt := topS 11
abbrev sIsRow : Stmt := topS 12
abbrev sIsRowOf : Stmt := topS 13
abbrev sIsName : Stmt := topS 14
abbrev sRises : Stmt := topS 15
abbrev sIsWeb : Stmt := topS 20
abbrev sAreFolk : Stmt := topS 21
abbrev sAreWays : Stmt := topS 22
abbrev sIsWay : Stmt := topS 23
abbrev sAreWayBeats : Stmt := topS 24
abbrev sOwnWeb : Stmt := topS 25
abbrev sBetween : Stmt := topS 26
abbrev sOwnPair : Stmt := topS 28
abbrev sWithWay : Stmt := topS 29
abbrev sWithoutWay : Stmt := topS 30
abbrev sLessWay : Stmt := topS 31
abbrev sLReel : Stmt := topS 33
abbrev sDraw : Stmt := topS 34
abbrev sNames : Stmt := topS 35
abbrev sWeb : Stmt := topS 36
abbrev sLReaches : Stmt := topS 37
abbrev sLDressedWeb : Stmt := topS 38
abbrev sLDressedRecord : Stmt := topS 39
abbrev sLToldRight : Stmt := topS 40
abbrev sLFullRight : Stmt := topS 41
abbrev sLaw : Stmt := topS 42
end Cry
/-! The plain kinds of things: what elsetold.forms promises of what is of form. -/
namespace Cry
open PySem PySem.Spec PyProof.Rows L2

/-- the built-in names that the text reads -/
structure Blt (mg : Str → Option Value) : Prop where
  isi : mg "isinstance" = none
  int : mg "int" = none
  bool : mg "bool" = none
  str : mg "str" = none
  list : mg "list" = none
  tuple : mg "tuple" = none
  len : mg "len" = none
  all : mg "all" = none
  zip : mg "zip" = none
section
variable {P : Program} {w : World} {K : PySem.W.Frag} {mg : Str → Option Value} {base : Heap}
theorem kD_int (d : PyData) : kitB (tyD d) "int" = some (decide (tyD d ∈ ["int", "bool"])) := by
  cases d
  · exact (show kitB "NoneType" "int" = some (decide ("NoneType" ∈ ["int", "bool"])) by decide +kernel)
  · exact (show kitB "bool" "int" = some (decide ("bool" ∈ ["int", "bool"])) by decide +kernel)
  · exact (show kitB "int" "int" = some (decide ("int" ∈ ["int", "bool"])) by decide +kernel)
  · exact (show kitB "str" "int" = some (decide ("str" ∈ ["int", "bool"])) by decide +kernel)
  · exact (show kitB "list" "int" = some (decide ("list" ∈ ["int", "bool"])) by decide +kernel)
  · exact (show kitB "tuple" "int" = some (decide ("tuple" ∈ ["int", "bool"])) by decide +kernel)
  · exact (show kitB "dict" "int" = some (decide ("dict" ∈ ["int", "bool"])) by decide +kernel)
theorem kD_bool (d : PyData) : kitB (tyD d) "bool" = some (decide (tyD d ∈ ["bool"])) := by
  cases d
  · exact (show kitB "NoneType" "bool" = some (decide ("NoneType" ∈ ["bool"])) by decide +kernel)
  · exact (show kitB "bool" "bool" = some (decide ("bool" ∈ ["bool"])) by decide +kernel)
  · exact (show kitB "int" "bool" = some (decide ("int" ∈ ["bool"])) by decide +kernel)
  · exact (show kitB "str" "bool" = some (decide ("str" ∈ ["bool"])) by decide +kernel)
  · exact (show kitB "list" "bool" = some (decide ("list" ∈ ["bool"])) by decide +kernel)
  · exact (show kitB "tuple" "bool" = some (decide ("tuple" ∈ ["bool"])) by decide +kernel)
  · exact (show kitB "dict" "bool" = some (decide ("dict" ∈ ["bool"])) by decide +kernel)
theorem kD_str (d : PyData) : kitB (tyD d) "str" = some (decide (tyD d ∈ ["str"])) := by
  cases d
  · exact (show kitB "NoneType" "str" = some (decide ("NoneType" ∈ ["str"])) by decide +kernel)
  · exact (show kitB "bool" "str" = some (decide ("bool" ∈ ["str"])) by decide +kernel)
  · exact (show kitB "int" "str" = some (decide ("int" ∈ ["str"])) by decide +kernel)
  · exact (show kitB "str" "str" = some (decide ("str" ∈ ["str"])) by decide +kernel)
  · exact (show kitB "list" "str" = some (decide ("list" ∈ ["str"])) by decide +kernel)
  · exact (show kitB "tuple" "str" = some (decide ("tuple" ∈ ["str"])) by decide +kernel)
  · exact (show kitB "dict" "str" = some (decide ("dict" ∈ ["str"])) by decide +kernel)
theorem kD_list (d : PyData) : kitB (tyD d) "list" = some (decide (tyD d ∈ ["list"])) := by
  cases d
  · exact (show kitB "NoneType" "list" = some (decide ("NoneType" ∈ ["list"])) by decide +kernel)
  · exact (show kitB "bool" "list" = some (decide ("bool" ∈ ["list"])) by decide +kernel)
  · exact (show kitB "int" "list" = some (decide ("int" ∈ ["list"])) by decide +kernel)
  · exact (show kitB "str" "list" = some (decide ("str" ∈ ["list"])) by decide +kernel)
  · exact (show kitB "list" "list" = some (decide ("list" ∈ ["list"])) by decide +kernel)
  · exact (show kitB "tuple" "list" = some (decide ("tuple" ∈ ["list"])) by decide +kernel)
  · exact (show kitB "dict" "list" = some (decide ("dict" ∈ ["list"])) by decide +kernel)
theorem kD_tuple (d : PyData) : kitB (tyD d) "tuple" = some (decide (tyD d ∈ ["tuple"])) := by
  cases d
  · exact (show kitB "NoneType" "tuple" = some (decide ("NoneType" ∈ ["tuple"])) by decide +kernel)
  · exact (show kitB "bool" "tuple" = some (decide ("bool" ∈ ["tuple"])) by decide +kernel)
  · exact (show kitB "int" "tuple" = some (decide ("int" ∈ ["tuple"])) by decide +kernel)
  · exact (show kitB "str" "tuple" = some (decide ("str" ∈ ["tuple"])) by decide +kernel)
  · exact (show kitB "list" "tuple" = some (decide ("list" ∈ ["tuple"])) by decide +kernel)
  · exact (show kitB "tuple" "tuple" = some (decide ("tuple" ∈ ["tuple"])) by decide +kernel)
  · exact (show kitB "dict" "tuple" = some (decide ("dict" ∈ ["tuple"])) by decide +kernel)
def wholeD : PyData → Bool
  | .int _ => true
  | _ => false
def nameOkS (x : Str) : Bool := decide (1 ≤ x.length) && decide (x.length ≤ 8) && x.cps.toList.all fun c => decide (c ∈ ("abcdefghijklmnopqrstuvwxyz" : Str).cps.toList)
def nameD : PyData → Bool
  | .str x => nameOkS x
  | _ => false
/-! ### is_whole -/
theorem scIsWhole : FnScope ["thing"] ["thing"] (defScope sIsWhole) := ⟨rfl, rfl, rfl, by decide +kernel, rfl, by decide +kernel, by decide +kernel⟩
/-- a def that judges one thing -/
def spJudge (K : PySem.W.Frag) (ask : PyData → Bool) : Sp := fun vs H Q _ => ∃ (v : V) (d : PyData), vs = [v] ∧ Da H v d ∧ ∀ H', Same H H' → Q (.bl (ask d)) H'
theorem ok_is_whole {f : Addr} {fd : FuncData} (F : Fun K "is_whole" "is_whole" sIsWhole f fd) (B : Blt mg) : FnOk P w K mg base CX0 1 f fd ["thing"] (spJudge K wholeD) := by
  refine F.ok scIsWhole (fun vs H Q E h => ?_) (fun cdv A outer s H vs Q E hr h => ?_)
  · obtain ⟨v, d, rfl, _⟩ := h
    rfl
  · obtain ⟨v, d, rfl, hd, q⟩ := h
    refine ⟨_, pss_one (ps_ret (pe_and (pe_callB call_isi (by rfl) B.isi (by decide +kernel) (pa_cons (pv 0) (pa_cons (pe_bltn (v := .ty "int") (u := .type "int") (by rfl) B.int (by decide +kernel) rfl) pa_nil)))
      (pe_one (pe_not (pe_callB call_isi (by rfl) B.isi (by decide +kernel) (pa_cons (pv 0) (pa_cons (pe_bltn (v := .ty "bool") (u := .type "bool") (by rfl) B.bool (by decide +kernel) rfl) pa_nil))))))), ?_⟩
    have two : ∀ (b1 b2 : Bool), kitB (tyD d) "int" = some b1 → kitB (tyD d) "bool" = some b2 → (b1 && !b2) = wholeD d → tAndV
        (tCB (rIsi K) (tCons (tVar 0) (tCons (tC (.ty "int")) tNil))) (tNotV (tCB (rIsi K) (tCons (tVar 0) (tCons (tC (.ty "bool")) tNil)))) (start ["thing"] [v]) H Q := by
      intro b1 b2 h1 h2 e
      refine ⟨_, rfl, _, _, _, _, _, rfl, .ty "int", hd.ty, kit_ty h1, _, rfl, ?_⟩
      cases b1 with
      | true =>
        refine iteT ⟨_, rfl, _, _, _, _, _, rfl, .ty "bool", hd.ty, kit_ty h2, _, rfl, ?_⟩
        have := q H (Same.refl H)
        rw [← e] at this
        exact this
      | false =>
        refine iteF ?_
        have := q H (Same.refl H)
        rw [← e] at this
        exact this
    exact two _ _ (kD_int d) (kD_bool d) (by cases d <;> rfl)
/-! ### is_row -/
theorem scIsRow : FnScope ["thing"] ["thing"] (defScope sIsRow) := ⟨rfl, rfl, rfl, by decide +kernel, rfl, by decide +kernel, by decide +kernel⟩
theorem ok_is_row {f : Addr} {fd : FuncData} (F : Fun K "is_row" "is_row" sIsRow f fd) (B : Blt mg) : FnOk P w K mg base CX0 1 f fd ["thing"] (spJudge K rowD) := by
  refine F.ok scIsRow (fun vs H Q E h => ?_) (fun cdv A outer s H vs Q E hr h => ?_)
  · obtain ⟨v, d, rfl, _⟩ := h
    rfl
  · obtain ⟨v, d, rfl, hd, q⟩ := h
    refine ⟨_, pss_one (ps_ret (pe_callB call_isiT (by rfl) B.isi (by decide +kernel) (pa_cons (pv 0) (pa_cons (pe_tup (pa_cons (pe_bltn (v := .ty "list") (u := .type "list") (by rfl) B.list (by decide +kernel) rfl)
      (pa_cons (pe_bltn (v := .ty "tuple") (u := .type "tuple") (by rfl) B.tuple (by decide +kernel) rfl) pa_nil))) pa_nil)))), ?_⟩
    refine ⟨_, rfl, by decide, fun p np => ?_⟩
    have s1 : Same H (upd H p (.tup [.ty "list", .ty "tuple"])) := same_new np
    have two : ∀ b1 b2 : Bool, kitB (tyD d) "list" = some b1 → kitB (tyD d) "tuple" = some b2 → PySem.W.kitAny K (.type (tyD d)) [.type "list", .type "tuple"] = some (b1 || b2) := by
      intro b1 b2 h1 h2
      refine kitAny_cons (kit_ty h1) (fun e => ?_) (fun e => by rw [e]; rfl)
      refine kitAny_cons (kit_ty h2) (fun e2 => ?_) (fun e2 => by rw [e, e2]; rfl)
      rw [e, e2]
      exact kitAny_nil
    have fin : PySem.W.kitAny K (.type (tyD d)) [.type "list", .type "tuple"] = some (rowD d) := by
      rw [two _ _ (kD_list d) (kD_tuple d)]
      cases d <;> rfl
    exact ⟨v, p, _, _, _, _, rfl, upd_same, .cons (.ty "list") (.cons (.ty "tuple") .nil), (hd.on s1).ty, fin, q _ s1⟩
/-! ### is_row_of -/
theorem scIsRowOf : FnScope ["many", "thing"] ["many", "thing"] (defScope sIsRowOf) := ⟨rfl, rfl, rfl, by decide +kernel, rfl, by decide +kernel, by decide +kernel⟩
def rowOfD (n : Nat) (d : PyData) : Bool := rowD d && decide ((itemsD d).length = n)
def spIsRowOf (K : PySem.W.Frag) : Sp := fun vs H Q _ => ∃ (n : Nat) (v : V) (d : PyData), vs = [.int (n : Int), v] ∧ Da H v d ∧ ∀ H', Same H H' → Q (.bl (rowOfD n d)) H'
/-- a def of the text, as it is called -/
structure Def (K : PySem.W.Frag) (mg : Str → Option Value) (x : Str) (f : Addr) (fd : FuncData) (ps : List Str) : Prop where
  at_ : mg x = some (.ref f)
  kp : PySem.W.keepIn K (.ref f) = true
  b : Binds K fd ps []
theorem ok_is_row_of {f f1 : Addr} {fd fd1 : FuncData} (F : Fun K "is_row_of" "is_row_of" sIsRowOf f fd) (B : Blt mg) (D1 : Def K mg "is_row" f1 fd1 ["thing"]) (G1 : FnOk P w K mg base CX0 1 f1 fd1 ["thing"] (spJudge K rowD)) :
    FnOk P w K mg base CX0 2 f fd ["many", "thing"] (spIsRowOf K) := by
  refine F.ok scIsRowOf (fun vs H Q E h => ?_) (fun cdv A outer s H vs Q E hr h => ?_)
  · obtain ⟨n, v, d, rfl, _⟩ := h
    rfl
  · obtain ⟨n, v, d, rfl, hd, q⟩ := h
    refine ⟨_, pss_one (ps_ret (pe_and (pe_call G1 hr (by rfl) D1.at_ D1.kp D1.b .nil pass0 (pa_cons (pv 1) pa_nil)) (pe_one (pe_cmpR op_eq (pe_callB call_len_seq (by rfl) B.len (by decide +kernel) (pa_cons (pv 1) pa_nil)) (pv 0) (nomark _))))), ?_⟩
    refine ⟨_, rfl, v, d, rfl, hd, fun H1 s1 => ⟨_, rfl, ?_⟩⟩
    cases r : rowD d with
    | false =>
      refine iteF ?_
      have := q H1 s1
      unfold rowOfD at this
      rw [r] at this
      exact this
    | true =>
      refine iteT ?_
      obtain ⟨a, xs, rfl, hs, hl, _⟩ := (hd.on s1).items r
      refine ⟨_, rfl, a, xs, rfl, seq_of hs, _, rfl, rfl, ?_⟩
      have := q H1 s1
      unfold rowOfD at this
      rw [r, ← hl] at this
      have e : decide (V.int ((xs.length : Nat) : Int) = V.int (n : Int)) = (true && decide (xs.length = n)) := by
        rw [Bool.true_and]
        by_cases h : xs.length = n
        · rw [decide_eq_true h, h]
          exact decide_eq_true rfl
        · rw [decide_eq_false h]
          refine decide_eq_false fun z => h ?_
          have := V.int.inj z
          omega
      rw [← e] at this
      exact this
/-! ### is_name -/
theorem map_range_get {α β : Type} (xs : List α) (f : α → β) (d : α) : ((List.range xs.length).map fun i => f ((xs[i]?).getD d)) = xs.map f := by
  apply List.ext_getElem?
  intro i
  rw [List.getElem?_map, List.getElem?_map]
  by_cases h : i < xs.length
  · rw [List.getElem?_range h, List.getElem?_eq_getElem h]
    simp [h]
  · rw [List.getElem?_eq_none (by simp; omega), List.getElem?_eq_none (by omega)]
    rfl
theorem all_cps (xs : Array Nat) (p : Nat → Bool) : ((List.range xs.size).map fun i => p ((xs[i]?).getD 0)).all id = xs.toList.all p := by
  have e := map_range_get xs.toList p 0
  simp only [Array.length_toList, Array.getElem?_toList] at e
  rw [e, List.all_map]
  rfl
theorem scIsName : FnScope ["thing", "letter"] ["thing"] (defScope sIsName) := ⟨rfl, rfl, rfl, by decide +kernel, rfl, by decide +kernel, by decide +kernel⟩
abbrev abc : Str := "abcdefghijklmnopqrstuvwxyz"
theorem ok_is_name {f : Addr} {fd : FuncData} {tk tk2 : Tok} (F : Fun K "is_name" "is_name" sIsName f fd) (B : Blt mg) (mL : mg "LETTERS" = some (.str abc tk)) (mM : mg "MOST_LETTERS" = some (.int 8 tk2)) : FnOk P w K mg base CX0 1 f fd ["thing"] (spJudge K nameD) := by
  refine F.ok scIsName (fun vs H Q E h => ?_) (fun cdv A outer s H vs Q E hr h => ?_)
  · obtain ⟨v, d, rfl, _⟩ := h
    rfl
  · obtain ⟨v, d, rfl, hd, q⟩ := h
    refine ⟨_, pss_cons (ps_if (PW.pt (pw_or (pt_not (pt_val (pe_callB call_isi (by rfl) B.isi (by decide +kernel) (pa_cons (pv 0) (pa_cons (pe_bltn (v := .ty "str") (u := .type "str") (by rfl) B.str (by decide +kernel) rfl) pa_nil)))))
        (pw_or1 (pt_not (pt_chain op_le op_le pe_int (pe_callB call_len_str (by rfl) B.len (by decide +kernel) (pa_cons (pv 0) pa_nil)) (pe_glob (v := .int 8) rfl mM ⟨_, rfl⟩)))))) (pss_one (ps_ret pe_bl)) pss_nil)
      (pss_one (ps_ret (pe_callB (cr_all rfl) (by rfl) B.all (by decide +kernel) (pa_cons (pe_lc (own := [("letter", 1)]) (g := gName 1) (tt := tYes) rfl scIsName.nd (pi_str (pv 0)) (blkOk_by (N := ["thing", "letter"]) (sc := defScope sIsName) (by decide +kernel))
        (fun _ _ _ _ _ => pg_name (i := 1) scIsName.nd rfl (Or.inl rfl)) (fun _ _ _ _ _ => pts_nil) (fun _ _ _ _ _ => pe_cmpR op_in_sign (pv 1) (pe_glob (v := .str abc) rfl mL ⟨_, rfl⟩) rfl)) pa_nil)))), ?_⟩
    refine ⟨v, rfl, _, _, _, _, _, rfl, .ty "str", hd.ty, kit_ty (kD_str d), _, rfl, ?_⟩
    cases d with
    | str x =>
      obtain ⟨rfl, hz⟩ : v = .str x ∧ x.length ≤ sizeLine := by
        cases hd with
        | str _ hz => exact ⟨rfl, hz⟩
      refine iteF ?_
      refine ⟨_, rfl, x, rfl, hz, _, _, rfl, rfl, _, rfl, ?_⟩
      by_cases h1 : 1 ≤ x.length
      · rw [decide_eq_true (show (1 : Int) ≤ ((x.length : Nat) : Int) by omega)]
        refine iteT ⟨_, _, rfl, rfl, _, rfl, ?_⟩
        by_cases h2 : x.length ≤ 8
        · rw [decide_eq_true (show ((x.length : Nat) : Int) ≤ 8 by omega)]
          refine iteF ?_
          refine ⟨_, rfl, _, rfl, fun D nD => ?_⟩
          refine lc_pure (walk_str (z := x)) (fun i => .bl (decide ((x.cps[i]?).getD 0 ∈ abc.cps.toList))) (Nat.le_trans (show x.cps.size ≤ 8 from h2) (by decide)) nD (fun _ _ => True.intro) (fun i H x H' y => by rw [y.1]; exact Same.refl _) (fun i y H2 H3 Z hi s2 hy k => ?_) fun H2 s2 h2' => ?_
          · obtain ⟨rfl, c, ec, rfl⟩ := hy
            refine ⟨rfl, _, rfl, _, _, rfl, rfl, ?_⟩
            have := k _ (Same.refl _)
            rw [ec] at this
            exact this
          · refine ⟨D, (List.range x.cps.size).map fun i => decide ((x.cps[i]?).getD 0 ∈ abc.cps.toList), rfl, ?_, ?_⟩
            · rw [List.map_map]
              exact SqL.of h2'
            · have e : ((List.range x.cps.size).map fun i => decide ((x.cps[i]?).getD 0 ∈ abc.cps.toList)).all id = nameD (.str x) := by
                show _ = (decide (1 ≤ x.length) && decide (x.length ≤ 8) && x.cps.toList.all fun c => decide (c ∈ abc.cps.toList))
                rw [decide_eq_true h1, decide_eq_true h2, Bool.true_and, Bool.true_and]
                exact all_cps x.cps fun c => decide (c ∈ abc.cps.toList)
              rw [e]
              exact q H2 s2
        · rw [decide_eq_false (show ¬ ((x.length : Nat) : Int) ≤ 8 by omega)]
          refine iteT ?_
          have := q H (Same.refl H)
          have e : nameD (.str x) = false := by
            show (decide (1 ≤ x.length) && decide (x.length ≤ 8) && _) = false
            rw [decide_eq_false h2, Bool.and_false, Bool.false_and]
          rw [e] at this
          exact this
      · rw [decide_eq_false (show ¬ (1 : Int) ≤ ((x.length : Nat) : Int) by omega)]
        refine iteF ⟨_, rfl, iteT ?_⟩
        have := q H (Same.refl H)
        have e : nameD (.str x) = false := by
          show (decide (1 ≤ x.length) && decide (x.length ≤ 8) && _) = false
          rw [decide_eq_false h1, Bool.false_and, Bool.false_and]
        rw [e] at this
        exact this
    | _ => exact iteT (iteT (q H (Same.refl H)))
/-! ### rises -/
theorem walk_zipT {a b : Addr} {xs ys : List V} {n : Nat} (hn : n = min xs.length ys.length) : Walk (RZ.ItzT K a b) n (fun H => SqT K H a xs ∧ SqT K H b ys) (YPair (fun i => xs[i]?) (fun i => ys[i]?)) where
  goes := fun i _ hi q => ⟨xs, ys, xs[i]'(by omega), ys[i]'(by omega), q.1, q.2, by simp [show i < xs.length by omega], by simp [show i < ys.length by omega]⟩
  stops := fun _ q => ⟨xs, ys, q.1, q.2, by omega⟩
  yields := fun i H v H' _ q y => by
    obtain ⟨T, x, z, h1, h2, h3, h4, h5⟩ := y
    exact ⟨T, x, z, h1, h2, h3, h4 xs q.1, h5 ys q.2⟩
/-- each is less than the next one -/
def risingD : List PyData → Bool
  | d :: e :: r => PySem.W.dataLt d e && risingD (e :: r)
  | _ => true
theorem rising_range : ∀ (ds : List PyData) (f : Nat → Bool), (∀ (i : Nat) d e, ds[i]? = some d → ds[i + 1]? = some e → f i = PySem.W.dataLt d e) → ((List.range (ds.length - 1)).map f).all id = risingD ds
  | [], _, _ => rfl
  | [_], _, _ => rfl
  | d :: e :: r, f, h => by
    have ih := rising_range (e :: r) (fun i => f (i + 1)) fun i a b h1 h2 => h (i + 1) a b (by simpa using h1) (by simpa using h2)
    have e1 : (d :: e :: r).length - 1 = (e :: r).length - 1 + 1 := by simp
    rw [e1, List.range_succ_eq_map, List.map_cons, List.map_map, List.all_cons]
    have e2 : ((List.range ((e :: r).length - 1)).map (f ∘ Nat.succ)) = ((List.range ((e :: r).length - 1)).map fun i => f (i + 1)) := rfl
    rw [e2, ih]
    show (f 0 && risingD (e :: r)) = (PySem.W.dataLt d e && risingD (e :: r))
    rw [h 0 d e rfl rfl]
theorem cut_tail (xs : List V) : cutV xs (some 1) none = xs.drop 1 := by
  unfold cutV
  rw [show HT.sIx xs.length 0 (some 1) = min 1 xs.length from HT.sIx_nat xs.length 0 1, HT.sIx_none]
  cases xs with
  | nil => rfl
  | cons x r =>
    have e : min 1 (x :: r).length = 1 := by
      rw [List.length_cons]
      omega
    rw [e]
    show List.take ((x :: r).length - 1) r = r
    rw [List.length_cons, Nat.add_sub_cancel]
    exact List.take_length
theorem scRises : FnScope ["things", "low", "high"] ["things"] (defScope sRises) := ⟨rfl, rfl, rfl, by decide +kernel, rfl, by decide +kernel, by decide +kernel⟩
def spRises (K : PySem.W.Frag) : Sp := fun vs H Q _ => ∃ (a : Addr) (xs : List V) (ds : List PyData), vs = [.ref a] ∧ (SqL K H a xs ∨ (SqT K H a xs ∧ xs ≠ [])) ∧ DpAll K H xs ds ∧ xs.length ≤ sizeLine ∧
  (∀ d ∈ ds, ∀ e ∈ ds, PySem.W.alike d e = true) ∧ (∀ d ∈ ds, d ≠ .none ∧ d.depth ≤ 20) ∧ ∀ H', Same H H' → Q (.bl (risingD ds)) H'
theorem dpAll_get {H : Hp} : ∀ {vs : List V} {ds : List PyData} {i : Nat} {v : V}, DpAll K H vs ds → vs[i]? = some v → ∃ d, ds[i]? = some d ∧ Dp K H v d
  | _, _, i, _, .nil, e => by simp at e
  | _, _, 0, v, .cons h _, e => by
    simp at e
    subst e
    exact ⟨_, rfl, h⟩
  | _, _, i + 1, v, .cons _ t, e => by
    obtain ⟨d, h1, h2⟩ := dpAll_get (i := i) t (by simpa using e)
    exact ⟨d, by simpa using h1, h2⟩
theorem ok_rises {f : Addr} {fd : FuncData} (F : Fun K "rises" "rises" sRises f fd) (B : Blt mg) : FnOk P w K mg base CX0 1 f fd ["things"] (spRises K) := by
  refine F.ok scRises (fun vs H Q E h => ?_) (fun cdv A outer s H vs Q E hr h => ?_)
  · obtain ⟨a, xs, ds, rfl, _⟩ := h
    rfl
  · obtain ⟨a, xs, ds, rfl, hs, hd, hz, al, nn, q⟩ := h
    have hl := dpAll_len hd
    refine ⟨_, pss_one (ps_ret (pe_callB (cr_all rfl) (by rfl) B.all (by decide +kernel) (pa_cons (pe_lc (own := [("low", 1), ("high", 2)]) (g := gTup K 2 (gCons (gName 1) (gCons (gName 2) gNil))) (tt := tYes) (te := tOp (rLtD K) (tVar 1) (tVar 2)) rfl scRises.nd
      (RZ.pi_zipA (by rfl) B.zip (pa_cons (pv 0) (pa_cons (pe_slice (sl_list.or sl_tup) (pv 0) (po_some pe_int) po_none) pa_nil)))
      (blkOk_by (N := ["things", "low", "high"]) (sc := defScope sRises) (by decide +kernel))
      (fun _ _ _ _ _ => pg_tup rfl (pgs_cons (pg_name (i := 1) scRises.nd rfl (Or.inl rfl)) (pgs_cons (pg_name (i := 2) scRises.nd rfl (Or.inl rfl)) pgs_nil))) (fun _ _ _ _ _ => pts_nil)
      (fun _ _ _ _ _ => pe_cmpR (r := rLtD K) (op_ltD hr.units) (pv 1) (pv 2) (nomark _))) pa_nil))), ?_⟩
    -- the pairs of neighbours, by lists or by tuples
    have go : ∀ (H1 : Hp) (J : It) (G : Hp → Prop) (D : Addr), Same H H1 → Walk J (xs.length - 1) G (YPair (fun i => xs[i]?) (fun i => (xs.drop 1)[i]?)) → (∀ H2, Same H1 H2 → G H2) → H1 D = none →
        ∃ W : Nat → Nat → Hp → Prop, (∃ m, W 0 m (upd H1 D (.lst []))) ∧ ∀ i m H, W i m H → (J.stop i H ∧ rAll K [.ref D] H Q) ∨
          (J.go i H ∧ ∃ Nx : Hp → Prop, (∀ H', Nx H' → ∃ m', m' < m ∧ W (i + 1) m' H') ∧ ∀ x H', J.yld i H x H' → gTup K 2 (gCons (gName 1) (gCons (gName 2) gNil)) x (wipe (start ["things", "low", "high"] [.ref a]) [1, 2]) H' fun σ2 H2 =>
            wipe σ2 [1, 2] = wipe (start ["things", "low", "high"] [.ref a]) [1, 2] ∧ tYes σ2 H2 fun b H3 => if b = true then tOp (rLtD K) (tVar 1) (tVar 2) σ2 H3 fun y H4 => ∃ acc, H4 D = some (.lst acc) ∧ acc.length < sizeLine ∧ Nx (upd H4 D (.lst (acc ++ [y]))) else Nx H3) := by
      intro H1 J G D s1 wk hG nD
      refine lc_pure wk (fun i => .bl (PySem.W.dataLt ((ds[i]?).getD .none) ((ds[i + 1]?).getD .none))) (by omega) nD hG yPair_same (fun i y H2 H3 Z hi s2 hy k => ?_) fun H2 s2 h2 => ?_
      · obtain ⟨T, u, v, rfl, nT, rfl, eu, ev⟩ := hy
        dsimp only at eu ev
        rw [List.getElem?_drop, Nat.add_comm 1 i] at ev
        have s3 : Same H (upd H2 T (.tup [u, v])) := (s1.trans s2).trans (same_new nT)
        obtain ⟨d, ed, hd1⟩ := dpAll_get hd eu
        obtain ⟨e, ee, hd2⟩ := dpAll_get hd ev
        refine ⟨T, [u, v], rfl, SqT.of upd_same, rfl, u, [v], rfl, v, [], rfl, rfl, rfl, ?_⟩
        refine ⟨u, rfl, v, rfl, d, e, Dp.on s3 hd1, Dp.on s3 hd2, al d (List.mem_of_getElem? ed) e (List.mem_of_getElem? ee), (nn d (List.mem_of_getElem? ed)).1, (nn d (List.mem_of_getElem? ed)).2, ?_⟩
        have := k _ (Same.refl _)
        rw [ed, ee] at this
        exact this
      · refine ⟨D, (List.range (xs.length - 1)).map fun i => PySem.W.dataLt ((ds[i]?).getD .none) ((ds[i + 1]?).getD .none), rfl, ?_, ?_⟩
        · rw [List.map_map]
          exact SqL.of h2
        · rw [hl, rising_range ds _ fun i d e h1 h2 => by rw [h1, h2]; rfl]
          exact q H2 (s1.trans s2)
    rcases hs with hs | ⟨hs, ne⟩
    · refine ⟨_, rfl, _, rfl, 1, rfl, .inl ⟨a, xs, rfl, hs, fun p np => ?_⟩⟩
      rw [cut_tail]
      have s1 : Same H (upd H p (.lst (xs.drop 1))) := same_new np
      refine ⟨a, p, xs, xs.drop 1, rfl, .inl ⟨s1.seq hs, SqL.of upd_same, fun D nD => ?_⟩⟩
      exact go _ _ _ D s1 (walk_zip (xs := xs) (ys := xs.drop 1) (by simp)) (fun H2 s2 => ⟨s2.seq (s1.seq hs), s2.seq (SqL.of upd_same)⟩) nD
    · refine ⟨_, rfl, _, rfl, 1, rfl, .inr ⟨a, xs, rfl, hs, ?_, fun p np => ?_⟩⟩
      · intro z
        have := z.1
        rw [show HT.sIx xs.length 0 (some 1) = min 1 xs.length from HT.sIx_nat xs.length 0 1] at this
        cases xs with
        | nil => exact ne rfl
        | cons x r =>
          rw [List.length_cons] at this
          omega
      · rw [cut_tail]
        have s1 : Same H (upd H p (.tup (xs.drop 1))) := same_new np
        refine ⟨a, p, xs, xs.drop 1, rfl, .inr ⟨sqT_same s1 hs, SqT.of upd_same, fun D nD => ?_⟩⟩
        exact go _ _ _ D s1 (walk_zipT (xs := xs) (ys := xs.drop 1) (by simp)) (fun H2 s2 => ⟨sqT_same s2 (sqT_same s1 hs), sqT_same s2 (SqT.of upd_same)⟩) nD
end
end Cry
/-! What elsetold.webs judges of anything: is_web and what it asks. -/
namespace Cry
open PySem PySem.Spec PyProof.Rows L2
section
variable {P : Program} {w : World} {K : PySem.W.Frag} {mg : Str → Option Value} {base : Heap}
/-! ### are_way_beats -/
theorem scAreWayBeats : FnScope ["thing"] ["thing"] (defScope sAreWayBeats) := ⟨rfl, rfl, rfl, by decide +kernel, rfl, by decide +kernel, by decide +kernel⟩
def beatsD : PyData → Bool
  | .int n => decide (1 ≤ n) && decide (n ≤ 1000000000000)
  | _ => false
theorem ok_are_way_beats {f f1 : Addr} {fd fd1 : FuncData} {tk : Tok} (F : Fun K "are_way_beats" "are_way_beats" sAreWayBeats f fd) (D1 : Def K mg "is_whole" f1 fd1 ["thing"]) (G1 : FnOk P w K mg base CX0 1 f1 fd1 ["thing"] (spJudge K wholeD))
    (mB : mg "MOST_BEATS" = some (.int 1000000000000 tk)) : FnOk P w K mg base CX0 2 f fd ["thing"] (spJudge K beatsD) := by
  refine F.ok scAreWayBeats (fun vs H Q E h => ?_) (fun cdv A outer s H vs Q E hr h => ?_)
  · obtain ⟨v, d, rfl, _⟩ := h
    rfl
  · obtain ⟨v, d, rfl, hd, q⟩ := h
    refine ⟨_, pss_one (ps_ret (pe_and (pe_call G1 hr (by rfl) D1.at_ D1.kp D1.b .nil pass0 (pa_cons (pv 0) pa_nil)) (pe_one (pe_chain op_le op_le pe_int (pv 0) (pe_glob (v := .int 1000000000000) rfl mB ⟨_, rfl⟩))))), ?_⟩
    refine ⟨_, rfl, v, d, rfl, hd, fun H1 s1 => ⟨_, rfl, ?_⟩⟩
    cases hd with
    | int n =>
      refine iteT ⟨_, rfl, _, _, rfl, rfl, _, rfl, ?_⟩
      have fin := q H1 s1
      by_cases h1 : 1 ≤ n
      · rw [decide_eq_true h1]
        refine iteT ⟨_, _, rfl, rfl, ?_⟩
        have e : beatsD (.int n) = decide (n ≤ 1000000000000) := by
          show (decide (1 ≤ n) && _) = _
          rw [decide_eq_true h1, Bool.true_and]
        rw [e] at fin
        exact fin
      · rw [decide_eq_false h1]
        refine iteF ?_
        have e : beatsD (.int n) = false := by
          show (decide (1 ≤ n) && _) = _
          rw [decide_eq_false h1, Bool.false_and]
        rw [e] at fin
        exact fin
    | _ => exact iteF (q H1 s1)
/-! ### is_way -/
theorem scIsWay : FnScope ["folk", "thing", "one", "other", "beats"] ["folk", "thing"] (defScope sIsWay) := ⟨rfl, rfl, rfl, by decide +kernel, rfl, by decide +kernel, by decide +kernel⟩
/-- one of the names -/
def inNames (x : Str) (names : List Str) : Bool := inV (.str x) (names.map V.str)
def ltS (x y : Str) : Bool := decide (x.cps.toList < y.cps.toList)
def wayIn (names : List Str) : PyData → PyData → PyData → Bool
  | .str x, .str y, b => nameOkS x && nameOkS y && beatsD b && (inNames x names && inNames y names && ltS x y)
  | _, _, _ => false
def wayD (names : List Str) (d : PyData) : Bool :=
  rowOfD 3 d && match itemsD d with
    | [a, b, c] => wayIn names a b c
    | _ => false
def spIsWay (K : PySem.W.Frag) : Sp := fun vs H Q _ => ∃ (a : Addr) (names : List Str) (v : V) (d : PyData), vs = [.ref a, v] ∧ (SqL K H a (names.map V.str) ∨ SqT K H a (names.map V.str)) ∧ Da H v d ∧ ∀ H', Same H H' → Q (.bl (wayD names d)) H'
theorem flat_names (names : List Str) : (names.map V.str).all flatV = true := by
  rw [List.all_map, List.all_eq_true]
  intro x _
  rfl
theorem seq_same {H H' : Hp} {a : Addr} {xs : List V} (s : Same H H') (h : SqL K H a xs ∨ SqT K H a xs) : SqL K H' a xs ∨ SqT K H' a xs := h.imp s.seq (sqT_same s)
theorem nameD_str {H : Hp} {v : V} {d : PyData} (h : Da H v d) (n : nameD d = true) : ∃ x, v = .str x ∧ d = .str x ∧ nameOkS x = true ∧ x.length ≤ sizeLine := by
  cases h with
  | str x hz => exact ⟨x, rfl, rfl, n, hz⟩
  | _ => exact absurd n (by simp [nameD])
/-- the defs that is_web asks, as they are called -/
structure FormDefs (P : Program) (w : World) (K : PySem.W.Frag) (mg : Str → Option Value) (base : Heap) where
  {f1 f2 f3 f4 : Addr}
  {fd1 fd2 fd3 fd4 : FuncData}
  D1 : Def K mg "is_row_of" f1 fd1 ["many", "thing"]
  G1 : FnOk P w K mg base CX0 2 f1 fd1 ["many", "thing"] (spIsRowOf K)
  D2 : Def K mg "is_name" f2 fd2 ["thing"]
  G2 : FnOk P w K mg base CX0 1 f2 fd2 ["thing"] (spJudge K nameD)
  D3 : Def K mg "are_way_beats" f3 fd3 ["thing"]
  G3 : FnOk P w K mg base CX0 2 f3 fd3 ["thing"] (spJudge K beatsD)
  D4 : Def K mg "is_row" f4 fd4 ["thing"]
  G4 : FnOk P w K mg base CX0 1 f4 fd4 ["thing"] (spJudge K rowD)
theorem ok_is_way {f : Addr} {fd : FuncData} (F : Fun K "is_way" "is_way" sIsWay f fd) (T : FormDefs P w K mg base) : FnOk P w K mg base CX0 3 f fd ["folk", "thing"] (spIsWay K) := by
  refine F.ok scIsWay (fun vs H Q E h => ?_) (fun cdv A outer s H vs Q E hr h => ?_)
  · obtain ⟨a, names, v, d, rfl, _⟩ := h
    rfl
  · obtain ⟨a, names, v, d, rfl, hf, hd, q⟩ := h
    refine ⟨_, pss_cons (ps_if (pt_not (pt_val (pe_call T.G1 hr (by rfl) T.D1.at_ T.D1.kp T.D1.b .nil pass0 (pa_cons pe_int (pa_cons (pv 1) pa_nil))))) (pss_one (ps_ret pe_bl)) pss_nil)
      (pss_cons (ps_asg (pv 1) (pg_row rfl (pgs_cons (pg_name (i := 2) scIsWay.nd rfl (Or.inl rfl)) (pgs_cons (pg_name (i := 3) scIsWay.nd rfl (Or.inl rfl)) (pgs_cons (pg_name (i := 4) scIsWay.nd rfl (Or.inl rfl)) pgs_nil)))))
      (pss_cons (ps_if (pt_not (PW.pt (pw_and (pt_val (pe_call T.G2 (hr.mono (by decide)) (by rfl) T.D2.at_ T.D2.kp T.D2.b .nil pass0 (pa_cons (pv 2) pa_nil))) (pw_and (pt_val (pe_call T.G2 (hr.mono (by decide)) (by rfl) T.D2.at_ T.D2.kp T.D2.b .nil pass0 (pa_cons (pv 3) pa_nil)))
          (pw_and1 (pt_val (pe_call T.G3 hr (by rfl) T.D3.at_ T.D3.kp T.D3.b .nil pass0 (pa_cons (pv 4) pa_nil)))))))) (pss_one (ps_ret pe_bl)) pss_nil)
      (pss_one (ps_ret (pe_and (pe_cmpR op_in_seq (pv 2) (pv 0) rfl) (pe_and (pe_cmpR op_in_seq (pv 3) (pv 0) rfl) (pe_one (pe_cmpR op_lt_str (pv 2) (pv 3) (nomark _))))))))), ?_⟩
    -- is_row_of(3, thing)
    refine ⟨_, rfl, 3, v, d, rfl, hd, fun H1 s1 => ⟨_, rfl, ?_⟩⟩
    cases r3 : rowOfD 3 d with
    | false =>
      refine iteT ?_
      have := q H1 s1
      unfold wayD at this
      rw [r3] at this
      exact this
    | true =>
      refine iteF ?_
      have r3' : rowD d = true ∧ (itemsD d).length = 3 := by simpa [rowOfD] using r3
      obtain ⟨b, xs, rfl, hs, hl, hi⟩ := (hd.on s1).items r3'.1
      obtain ⟨x1, x2, x3, rfl⟩ : ∃ x1 x2 x3, xs = [x1, x2, x3] := by
        rw [r3'.2] at hl
        match xs, hl with
        | [x1, x2, x3], _ => exact ⟨x1, x2, x3, rfl⟩
      obtain ⟨d1, d2, d3, ed⟩ : ∃ d1 d2 d3, itemsD d = [d1, d2, d3] := by
        have h3 := r3'.2
        match itemsD d, h3 with
        | [d1, d2, d3], _ => exact ⟨d1, d2, d3, rfl⟩
      rw [ed] at hi
      have e1 := hi 0 x1 d1 rfl rfl
      have e2 := hi 1 x2 d2 rfl rfl
      have e3 := hi 2 x3 d3 rfl rfl
      have ew : wayD names d = wayIn names d1 d2 d3 := by
        unfold wayD
        rw [r3, ed, Bool.true_and]
      rw [ew] at q
      -- one, other, beats = thing
      refine ⟨_, rfl, b, _, rfl, seq_of hs, rfl, _, _, rfl, _, _, rfl, _, _, rfl, rfl, ?_⟩
      -- is_name(one) and is_name(other) and are_way_beats(beats)
      refine ⟨_, rfl, x1, d1, rfl, e1, fun H2 s2 => ⟨_, rfl, ?_⟩⟩
      have s12 := s1.trans s2
      have no : ∀ H', Same H H' → wayIn names d1 d2 d3 = false → Q (.bl false) H' := fun H' s' e => by
        have := q H' s'
        rw [e] at this
        exact this
      cases n1 : nameD d1 with
      | false =>
        refine iteF (iteT (no H2 s12 ?_))
        cases d1 <;> first | rfl | skip
        cases d2 <;> first | rfl | skip
        show (nameOkS _ && _ && _ && _) = false
        rw [show nameOkS _ = false from n1]
        rfl
      | true =>
        obtain ⟨x, rfl, rfl, ox, _⟩ := nameD_str e1 n1
        refine iteT ⟨_, rfl, x2, d2, rfl, e2.on s2, fun H3 s3 => ⟨_, rfl, ?_⟩⟩
        have s13 := s12.trans s3
        cases n2 : nameD d2 with
        | false =>
          refine iteF (iteT (no H3 s13 ?_))
          cases d2 <;> first | rfl | skip
          show (nameOkS _ && nameOkS _ && _ && _) = false
          rw [show nameOkS _ = false from n2, Bool.and_false, Bool.false_and, Bool.false_and]
        | true =>
          obtain ⟨y, rfl, rfl, oy, _⟩ := nameD_str e2 n2
          refine iteT ⟨_, rfl, x3, d3, rfl, (e3.on s2).on s3, fun H4 s4 => ⟨_, rfl, ?_⟩⟩
          have s14 := s13.trans s4
          cases n3 : beatsD d3 with
          | false =>
            refine iteT (no H4 s14 ?_)
            show (nameOkS x && nameOkS y && beatsD d3 && _) = false
            rw [n3, Bool.and_false, Bool.false_and]
          | true =>
            refine iteF ?_
            have fin := q H4 s14
            have e : wayIn names (.str x) (.str y) d3 = (inNames x names && inNames y names && ltS x y) := by
              show (nameOkS x && nameOkS y && beatsD d3 && _) = _
              rw [ox, oy, n3]
              rfl
            rw [e] at fin
            -- one in folk and other in folk and one < other
            refine ⟨_, rfl, _, rfl, a, _, rfl, seq_same s14 hf, rfl, flat_names names, _, rfl, ?_⟩
            cases i1 : inV (.str x) (names.map V.str) with
            | false =>
              refine iteF ?_
              rw [show inNames x names = false from i1] at fin
              exact fin
            | true =>
              rw [show inNames x names = true from i1, Bool.true_and] at fin
              refine iteT ⟨_, rfl, _, rfl, a, _, rfl, seq_same s14 hf, rfl, flat_names names, _, rfl, ?_⟩
              cases i2 : inV (.str y) (names.map V.str) with
              | false =>
                refine iteF ?_
                rw [show inNames y names = false from i2] at fin
                exact fin
              | true =>
                rw [show inNames y names = true from i2, Bool.true_and] at fin
                exact iteT ⟨_, rfl, _, rfl, x, y, rfl, rfl, fin⟩
/-! ### are_folk -/
theorem scAreFolk : FnScope ["thing", "name"] ["thing"] (defScope sAreFolk) := ⟨rfl, rfl, rfl, by decide +kernel, rfl, by decide +kernel, by decide +kernel⟩
def folkD (d : PyData) : Bool := rowD d && decide (1 ≤ (itemsD d).length) && decide ((itemsD d).length ≤ 60) && (itemsD d).all nameD && risingD (itemsD d)
/-- a row of names -/
theorem names_of {H : Hp} : ∀ {xs : List V} {ds : List PyData}, xs.length = ds.length → (∀ (i : Nat) (x : V) (e : PyData), xs[i]? = some x → ds[i]? = some e → Da H x e) → ds.all nameD = true →
    ∃ names : List Str, xs = names.map V.str ∧ ds = names.map PyData.str ∧ (∀ x ∈ names, nameOkS x = true)
  | [], [], _, _, _ => ⟨[], rfl, rfl, fun x h => by simp at h⟩
  | x :: xs, d :: ds, hl, hi, ha => by
    rw [List.all_cons, Bool.and_eq_true] at ha
    obtain ⟨y, rfl, rfl, oy, _⟩ := nameD_str (hi 0 x d rfl rfl) ha.1
    obtain ⟨names, rfl, rfl, on⟩ := names_of (xs := xs) (ds := ds) (by simpa using hl) (fun i x e h1 h2 => hi (i + 1) x e (by simpa using h1) (by simpa using h2)) ha.2
    refine ⟨y :: names, rfl, rfl, fun z hz => ?_⟩
    rcases List.mem_cons.mp hz with e | e
    · rw [e]
      exact oy
    · exact on z e
theorem strs_alike (names : List Str) : ∀ d ∈ names.map PyData.str, ∀ e ∈ names.map PyData.str, PySem.W.alike d e = true := fun d hd e he => by
  obtain ⟨x, _, rfl⟩ := List.mem_map.mp hd
  obtain ⟨y, _, rfl⟩ := List.mem_map.mp he
  rfl
theorem strs_flat (names : List Str) : ∀ d ∈ names.map PyData.str, d ≠ .none ∧ d.depth ≤ 20 := fun d hd => by
  obtain ⟨x, _, rfl⟩ := List.mem_map.mp hd
  exact ⟨nofun, by show 0 ≤ 20; omega⟩
theorem ok_are_folk {f f5 : Addr} {fd fd5 : FuncData} {tk : Tok} (F : Fun K "are_folk" "are_folk" sAreFolk f fd) (B : Blt mg) (T : FormDefs P w K mg base) (D5 : Def K mg "rises" f5 fd5 ["things"]) (G5 : FnOk P w K mg base CX0 1 f5 fd5 ["things"] (spRises K))
    (mF : mg "MOST_FOLK" = some (.int 60 tk)) : FnOk P w K mg base CX0 2 f fd ["thing"] (spJudge K folkD) := by
  refine F.ok scAreFolk (fun vs H Q E h => ?_) (fun cdv A outer s H vs Q E hr h => ?_)
  · obtain ⟨v, d, rfl, _⟩ := h
    rfl
  · obtain ⟨v, d, rfl, hd, q⟩ := h
    refine ⟨_, pss_cons (ps_if (PW.pt (pw_or (pt_not (pt_val (pe_call T.G4 hr (by rfl) T.D4.at_ T.D4.kp T.D4.b .nil pass0 (pa_cons (pv 0) pa_nil))))
        (pw_or1 (pt_not (pt_chain op_le op_le pe_int (pe_callB call_len_seq (by rfl) B.len (by decide +kernel) (pa_cons (pv 0) pa_nil)) (pe_glob (v := .int 60) rfl mF ⟨_, rfl⟩)))))) (pss_one (ps_ret pe_bl)) pss_nil)
      (pss_one (ps_ret (pe_and (pe_callB (cr_all rfl) (by rfl) B.all (by decide +kernel) (pa_cons (pe_lc (own := [("name", 1)]) (g := gName 1) (tt := tYes) (te := tCall (spJudge K nameD) [] (fun _ _ _ => False) (tCons (tVar 1) tNil)) rfl scAreFolk.nd (pi_row (pv 0)) (blkOk_by (N := ["thing", "name"]) (sc := defScope sAreFolk) (by decide +kernel))
        (fun _ _ _ _ _ => pg_name (i := 1) scAreFolk.nd rfl (Or.inl rfl)) (fun _ _ _ _ _ => pts_nil) (fun _ _ _ _ _ => pe_call T.G2 hr (by rfl) T.D2.at_ T.D2.kp T.D2.b .nil pass0 (pa_cons (pv 1) pa_nil))) pa_nil))
        (pe_one (pe_call G5 hr (by rfl) D5.at_ D5.kp D5.b .nil pass0 (pa_cons (pv 0) pa_nil)))))), ?_⟩
    have no : ∀ H', Same H H' → folkD d = false → Q (.bl false) H' := fun H' s' e => by
      have := q H' s'
      rw [e] at this
      exact this
    refine ⟨_, rfl, v, d, rfl, hd, fun H1 s1 => ⟨_, rfl, ?_⟩⟩
    cases r : rowD d with
    | false => exact iteT (iteT (no H1 s1 (by unfold folkD; rw [r]; rfl)))
    | true =>
      refine iteF ?_
      obtain ⟨a, xs, rfl, hs, hl, hi⟩ := (hd.on s1).items r
      refine ⟨_, rfl, a, xs, rfl, seq_of hs, _, _, rfl, rfl, _, rfl, ?_⟩
      by_cases l1 : 1 ≤ xs.length
      · rw [decide_eq_true (show (1 : Int) ≤ ((xs.length : Nat) : Int) by omega)]
        refine iteT ⟨_, _, rfl, rfl, _, rfl, ?_⟩
        by_cases l2 : xs.length ≤ 60
        · rw [decide_eq_true (show ((xs.length : Nat) : Int) ≤ 60 by omega)]
          refine iteF ?_
          -- all([is_name(name) for name in thing])
          have ef : folkD d = ((itemsD d).all nameD && risingD (itemsD d)) := by
            unfold folkD
            rw [r, decide_eq_true (show 1 ≤ (itemsD d).length by omega), decide_eq_true (show (itemsD d).length ≤ 60 by omega)]
            rfl
          have go : ∀ (J : It) (D : Addr), Walk J xs.length (fun H2 => Same H1 H2) (YAt xs) → H1 D = none →
              ∃ W : Nat → Nat → Hp → Prop, (∃ m, W 0 m (upd H1 D (.lst []))) ∧ ∀ i m H, W i m H → (J.stop i H ∧ rAll K [.ref D] H fun x H2 => ∃ c, x = .bl c ∧ if c = true then tCall (spRises K) [] (fun _ _ _ => False) (tCons (tVar 0) tNil) (start ["thing", "name"] [.ref a]) H2 Q else Q (.bl false) H2) ∨
                (J.go i H ∧ ∃ Nx : Hp → Prop, (∀ H', Nx H' → ∃ m', m' < m ∧ W (i + 1) m' H') ∧ ∀ x H', J.yld i H x H' → gName 1 x (wipe (start ["thing", "name"] [.ref a]) [1]) H' fun σ2 H2 =>
                  wipe σ2 [1] = wipe (start ["thing", "name"] [.ref a]) [1] ∧ tYes σ2 H2 fun b H3 => if b = true then tCall (spJudge K nameD) [] (fun _ _ _ => False) (tCons (tVar 1) tNil) σ2 H3 fun y H4 => ∃ acc, H4 D = some (.lst acc) ∧ acc.length < sizeLine ∧ Nx (upd H4 D (.lst (acc ++ [y]))) else Nx H3) := by
            intro J D wk nD
            refine lc_pure wk (fun i => .bl (nameD (((itemsD d)[i]?).getD .none))) (Nat.le_trans l2 (by decide)) nD (fun _ h => h) yAt_same (fun i y H2 H3 Z hi2 s2 hy k => ?_) fun H2 s2 h2 => ?_
            · obtain ⟨rfl, ey⟩ := hy
              obtain ⟨e, ee⟩ : ∃ e, (itemsD d)[i]? = some e := ⟨_, List.getElem?_eq_getElem (show i < (itemsD d).length by omega)⟩
              rw [ee] at k
              exact ⟨rfl, y, rfl, y, e, rfl, (hi i y e ey ee).on s2, fun H5 s5 => k H5 s5⟩
            · refine ⟨D, (List.range xs.length).map fun i => nameD (((itemsD d)[i]?).getD .none), rfl, ?_, _, rfl, ?_⟩
              · rw [List.map_map]
                exact SqL.of h2
              · have e : ((List.range xs.length).map fun i => nameD (((itemsD d)[i]?).getD .none)).all id = (itemsD d).all nameD := by
                  rw [hl, map_range_get (itemsD d) nameD, List.all_map]
                  rfl
                rw [e]
                cases al : (itemsD d).all nameD with
                | false => exact iteF (no H2 (s1.trans s2) (by rw [ef, al]; rfl))
                | true =>
                  refine iteT ?_
                  obtain ⟨names, en, ed, _⟩ := names_of hl hi al
                  refine ⟨_, rfl, a, xs, itemsD d, rfl, ?_, ?_, Nat.le_trans l2 (by decide), ?_, ?_, fun H5 s5 => ?_⟩
                  · refine (seq_same s2 (seq_of hs)).imp id fun z => ⟨z, fun e => ?_⟩
                    rw [e] at l1
                    simp at l1
                  · rw [en, ed]
                    exact (Ims.strs names).dp
                  · rw [ed]
                    exact strs_alike names
                  · rw [ed]
                    exact strs_flat names
                  · have := q H5 ((s1.trans s2).trans s5)
                    rw [ef, al, Bool.true_and] at this
                    exact this
          refine ⟨_, rfl, a, rfl, ?_⟩
          rcases hs with hs | hs
          · exact .inl ⟨⟨xs, SqL.of hs⟩, fun D nD => go _ D (walk_list.mono (fun H2 s2 => s2.seq (SqL.of hs)) fun _ _ _ _ _ _ y => y) nD⟩
          · exact .inr ⟨⟨xs, SqT.of hs⟩, fun D nD => go _ D (walk_tup.mono (fun H2 s2 => sqT_same s2 (SqT.of hs)) fun _ _ _ _ _ _ y => y) nD⟩
        · rw [decide_eq_false (show ¬ ((xs.length : Nat) : Int) ≤ 60 by omega)]
          exact iteT (no H1 s1 (by unfold folkD; rw [decide_eq_false (show ¬ (itemsD d).length ≤ 60 by omega)]; simp))
      · rw [decide_eq_false (show ¬ (1 : Int) ≤ ((xs.length : Nat) : Int) by omega)]
        exact iteF ⟨_, rfl, iteT (no H1 s1 (by unfold folkD; rw [decide_eq_false (show ¬ 1 ≤ (itemsD d).length by omega)]; simp))⟩
/-! ### are_ways -/
theorem scAreWays : FnScope ["folk", "thing", "way"] ["folk", "thing"] (defScope sAreWays) := ⟨rfl, rfl, rfl, by decide +kernel, rfl, by decide +kernel, by decide +kernel⟩
/-- the two of a way -/
def pairOf (d : PyData) : PyData := .tuple [((itemsD d)[0]?).getD .none, ((itemsD d)[1]?).getD .none]
def waysD (names : List Str) (d : PyData) : Bool := rowD d && decide ((itemsD d).length ≤ 150) && (itemsD d).all (wayD names) && risingD ((itemsD d).map pairOf)
theorem wayD_true {names : List Str} {d : PyData} (h : wayD names d = true) : rowD d = true ∧ ∃ x y n, itemsD d = [.str x, .str y, .int n] ∧ nameOkS x = true ∧ nameOkS y = true ∧ 1 ≤ n ∧ n ≤ 1000000000000 ∧ inNames x names = true ∧ inNames y names = true ∧ ltS x y = true := by
  unfold wayD at h
  rw [Bool.and_eq_true] at h
  obtain ⟨h1, h2⟩ := h
  have r : rowD d = true ∧ (itemsD d).length = 3 := by simpa [rowOfD] using h1
  refine ⟨r.1, ?_⟩
  match ei : itemsD d, r.2 with
  | [a, b, c], _ =>
    rw [ei] at h2
    dsimp only at h2
    match a, b, h2 with
    | .str x, .str y, h2 =>
      have h3 : (nameOkS x && nameOkS y && beatsD c && (inNames x names && inNames y names && ltS x y)) = true := h2
      have hb : beatsD c = true := by
        cases hb : beatsD c with
        | true => rfl
        | false =>
          rw [hb] at h3
          simp at h3
      obtain ⟨n, rfl⟩ : ∃ n, c = .int n := by
        cases c with
        | int n => exact ⟨n, rfl⟩
        | _ => exact absurd hb (by simp [beatsD])
      have h4 : nameOkS x = true ∧ nameOkS y = true ∧ (1 ≤ n ∧ n ≤ 1000000000000) ∧ inNames x names = true ∧ inNames y names = true ∧ ltS x y = true := by
        simpa [beatsD, and_assoc] using h3
      exact ⟨x, y, n, rfl, h4.1, h4.2.1, h4.2.2.1.1, h4.2.2.1.2, h4.2.2.2.1, h4.2.2.2.2.1, h4.2.2.2.2.2⟩
def spAreWays (K : PySem.W.Frag) : Sp := fun vs H Q _ => ∃ (a : Addr) (names : List Str) (v : V) (d : PyData), vs = [.ref a, v] ∧ (SqL K H a (names.map V.str) ∨ SqT K H a (names.map V.str)) ∧ Da H v d ∧ ∀ H', Same H H' → Q (.bl (waysD names d)) H'
theorem ok_are_ways {f f5 f6 : Addr} {fd fd5 fd6 : FuncData} {tk : Tok} (F : Fun K "are_ways" "are_ways" sAreWays f fd) (B : Blt mg) (T : FormDefs P w K mg base) (D5 : Def K mg "rises" f5 fd5 ["things"]) (G5 : FnOk P w K mg base CX0 1 f5 fd5 ["things"] (spRises K))
    (D6 : Def K mg "is_way" f6 fd6 ["folk", "thing"]) (G6 : FnOk P w K mg base CX0 3 f6 fd6 ["folk", "thing"] (spIsWay K)) (mF : mg "MOST_WAYS" = some (.int 150 tk)) : FnOk P w K mg base CX0 4 f fd ["folk", "thing"] (spAreWays K) := by
  refine F.ok scAreWays (fun vs H Q E h => ?_) (fun cdv A outer s H vs Q E hr h => ?_)
  · obtain ⟨a, names, v, d, rfl, _⟩ := h
    rfl
  · obtain ⟨b, names, v, d, rfl, hf, hd, q⟩ := h
    refine ⟨_, pss_cons (ps_if (PW.pt (pw_or (pt_not (pt_val (pe_call T.G4 (hr.mono (by decide)) (by rfl) T.D4.at_ T.D4.kp T.D4.b .nil pass0 (pa_cons (pv 1) pa_nil))))
        (pw_or1 (pt_cmpR op_gt (pe_callB call_len_seq (by rfl) B.len (by decide +kernel) (pa_cons (pv 1) pa_nil)) (pe_glob (v := .int 150) rfl mF ⟨_, rfl⟩) (nomark _))))) (pss_one (ps_ret pe_bl)) pss_nil)
      (pss_cons (ps_if (pt_not (pt_val (pe_callB (cr_all rfl) (by rfl) B.all (by decide +kernel) (pa_cons (pe_lc (own := [("way", 2)]) (g := gName 2) (tt := tYes) (te := tCall (spIsWay K) [] (fun _ _ _ => False) (tCons (tVar 0) (tCons (tVar 2) tNil))) rfl scAreWays.nd (pi_row (pv 1)) (blkOk_by (N := ["folk", "thing", "way"]) (sc := defScope sAreWays) (by decide +kernel))
          (fun _ _ _ _ _ => pg_name (i := 2) scAreWays.nd rfl (Or.inl rfl)) (fun _ _ _ _ _ => pts_nil) (fun _ _ _ _ _ => pe_call G6 hr (by rfl) D6.at_ D6.kp D6.b .nil pass0 (pa_cons (pv 0) (pa_cons (pv 2) pa_nil)))) pa_nil)))) (pss_one (ps_ret pe_bl)) pss_nil)
      (pss_one (ps_ret (pe_call G5 (hr.mono (by decide)) (by rfl) D5.at_ D5.kp D5.b .nil pass0 (pa_cons (pe_lc (own := [("way", 2)]) (g := gName 2) (tt := tYes) (te := tTup (tCons (tOp (rIx K) (tVar 2) (tC (.int 0))) (tCons (tOp (rIx K) (tVar 2) (tC (.int 1))) tNil))) rfl scAreWays.nd (pi_row (pv 1)) (blkOk_by (N := ["folk", "thing", "way"]) (sc := defScope sAreWays) (by decide +kernel))
          (fun _ _ _ _ _ => pg_name (i := 2) scAreWays.nd rfl (Or.inl rfl)) (fun _ _ _ _ _ => pts_nil) (fun _ _ _ _ _ => pe_tup (pa_cons (pe_ix ix_seq (pv 2) pe_int (fun _ _ => rfl)) (pa_cons (pe_ix ix_seq (pv 2) pe_int (fun _ _ => rfl)) pa_nil)))) pa_nil))))), ?_⟩
    have no : ∀ H', Same H H' → waysD names d = false → Q (.bl false) H' := fun H' s' e => by
      have := q H' s'
      rw [e] at this
      exact this
    refine ⟨_, rfl, v, d, rfl, hd, fun H1 s1 => ⟨_, rfl, ?_⟩⟩
    cases r : rowD d with
    | false => exact iteT (iteT (no H1 s1 (by unfold waysD; rw [r]; rfl)))
    | true =>
      refine iteF ?_
      obtain ⟨a, xs, rfl, hs, hl, hi⟩ := (hd.on s1).items r
      refine ⟨_, rfl, a, xs, rfl, seq_of hs, _, _, rfl, rfl, _, rfl, ?_⟩
      by_cases l2 : xs.length ≤ 150
      · rw [decide_eq_false (show ¬ (150 : Int) < ((xs.length : Nat) : Int) by omega)]
        refine iteF ?_
        have ef : waysD names d = ((itemsD d).all (wayD names) && risingD ((itemsD d).map pairOf)) := by
          unfold waysD
          rw [r, decide_eq_true (show (itemsD d).length ≤ 150 by omega)]
          rfl
        -- all([is_way(folk, way) for way in thing])
        refine ⟨_, rfl, a, rfl, ?_⟩
        have walk1 : ∀ H0, Same H1 H0 → (((∃ ys, SqL K H0 a ys) ∧ Walk (Itl K a) xs.length (fun H2 => Same H0 H2) (YAt xs)) ∨ ((∃ ys, SqT K H0 a ys) ∧ Walk (Itt K a) xs.length (fun H2 => Same H0 H2) (YAt xs))) := by
          intro H0 s0
          rcases hs with hs | hs
          · exact .inl ⟨⟨xs, s0.seq (SqL.of hs)⟩, walk_list.mono (fun H2 s2 => s2.seq (s0.seq (SqL.of hs))) fun _ _ _ _ _ _ y => y⟩
          · exact .inr ⟨⟨xs, sqT_same s0 (SqT.of hs)⟩, walk_tup.mono (fun H2 s2 => sqT_same s2 (sqT_same s0 (SqT.of hs))) fun _ _ _ _ _ _ y => y⟩
        -- behind the first comprehension
        suffices rest : ∀ H2, Same H1 H2 → (itemsD d).all (wayD names) = true → tRet (tCall (spRises K) [] (fun _ _ _ => False) (tCons (tLc (iRow K (tVar 1)) (gName 2) tYes (tTup (tCons (tOp (rIx K) (tVar 2) (tC (.int 0))) (tCons (tOp (rIx K) (tVar 2) (tC (.int 1))) tNil))) [2]) tNil)) { nx := fun _ H' => Q .non H', rt := Q } (start ["folk", "thing", "way"] [.ref b, .ref a]) H2 by
          have item : ∀ (J : It) (D : Addr), Walk J xs.length (fun H2 => Same H1 H2) (YAt xs) → H1 D = none → ∀ Qd : Hp → Prop, (∀ H2, Same H1 H2 → H2 D = some (.lst (((itemsD d).map (wayD names)).map V.bl)) → Qd H2) →
              ∃ W : Nat → Nat → Hp → Prop, (∃ m, W 0 m (upd H1 D (.lst []))) ∧ ∀ i m H, W i m H → (J.stop i H ∧ Qd H) ∨
                (J.go i H ∧ ∃ Nx : Hp → Prop, (∀ H', Nx H' → ∃ m', m' < m ∧ W (i + 1) m' H') ∧ ∀ x H', J.yld i H x H' → gName 2 x (wipe (start ["folk", "thing", "way"] [.ref b, .ref a]) [2]) H' fun σ2 H2 =>
                  wipe σ2 [2] = wipe (start ["folk", "thing", "way"] [.ref b, .ref a]) [2] ∧ tYes σ2 H2 fun b H3 => if b = true then tCall (spIsWay K) [] (fun _ _ _ => False) (tCons (tVar 0) (tCons (tVar 2) tNil)) σ2 H3 fun y H4 => ∃ acc, H4 D = some (.lst acc) ∧ acc.length < sizeLine ∧ Nx (upd H4 D (.lst (acc ++ [y]))) else Nx H3) := by
            intro J D wk nD Qd hQd
            refine lc_pure wk (fun i => .bl (wayD names (((itemsD d)[i]?).getD .none))) (Nat.le_trans l2 (by decide)) nD (fun _ h => h) yAt_same (fun i y H2 H3 Z hi2 s2 hy k => ?_) fun H2 s2 h2 => hQd H2 s2 ?_
            · obtain ⟨rfl, ey⟩ := hy
              obtain ⟨e, ee⟩ : ∃ e, (itemsD d)[i]? = some e := ⟨_, List.getElem?_eq_getElem (show i < (itemsD d).length by omega)⟩
              rw [ee] at k
              exact ⟨rfl, _, rfl, y, rfl, b, names, y, e, rfl, seq_same (s1.trans s2) hf, (hi i y e ey ee).on s2, fun H5 s5 => k H5 s5⟩
            · rw [h2, hl]
              have e1 := map_range_get (itemsD d) (wayD names) .none
              rw [← e1, List.map_map]
              rfl
          have fin : ∀ D H2, Same H1 H2 → H2 D = some (.lst (((itemsD d).map (wayD names)).map V.bl)) → rAll K [.ref D] H2 fun x H3 => ∃ c, x = .bl c ∧ if (!c) = true then tRet (tC (.bl false)) { nx := fun _ H' => Q .non H', rt := Q } (start ["folk", "thing", "way"] [.ref b, .ref a]) H3 else tNext { nx := tRet (tCall (spRises K) [] (fun _ _ _ => False) (tCons (tLc (iRow K (tVar 1)) (gName 2) tYes (tTup (tCons (tOp (rIx K) (tVar 2) (tC (.int 0))) (tCons (tOp (rIx K) (tVar 2) (tC (.int 1))) tNil))) [2]) tNil)) { nx := fun _ H' => Q .non H', rt := Q }, rt := Q } (start ["folk", "thing", "way"] [.ref b, .ref a]) H3 := by
            intro D H2 s2 h2
            refine ⟨D, (itemsD d).map (wayD names), rfl, SqL.of h2, ?_⟩
            rw [List.all_map, show (id ∘ wayD names) = wayD names from rfl]
            cases al : (itemsD d).all (wayD names) with
            | false => exact ⟨_, rfl, iteT (no H2 (s1.trans s2) (by rw [ef, al]; rfl))⟩
            | true => exact ⟨_, rfl, iteF (rest H2 s2 al)⟩
          rcases walk1 H1 (Same.refl _) with ⟨h1, wk⟩ | ⟨h1, wk⟩
          · exact .inl ⟨h1, fun D nD => item _ D wk nD _ (fin D)⟩
          · exact .inr ⟨h1, fun D nD => item _ D wk nD _ (fin D)⟩
        -- the pairs
        intro H2 s2 al
        have each : ∀ (i : Nat) (e : PyData), (itemsD d)[i]? = some e → wayD names e = true := fun i e ee => List.all_eq_true.mp al e (List.mem_of_getElem? ee)
        refine ⟨_, rfl, a, rfl, ?_⟩
        have item : ∀ (J : It) (D : Addr), Walk J xs.length (fun H3 => Same H2 H3) (YAt xs) → H2 D = none →
              ∃ W : Nat → Nat → Hp → Prop, (∃ m, W 0 m (upd H2 D (.lst []))) ∧ ∀ i m H, W i m H → (J.stop i H ∧ spRises K [.ref D] H Q fun _ _ _ => False) ∨
                (J.go i H ∧ ∃ Nx : Hp → Prop, (∀ H', Nx H' → ∃ m', m' < m ∧ W (i + 1) m' H') ∧ ∀ x H', J.yld i H x H' → gName 2 x (wipe (start ["folk", "thing", "way"] [.ref b, .ref a]) [2]) H' fun σ2 H2 =>
                  wipe σ2 [2] = wipe (start ["folk", "thing", "way"] [.ref b, .ref a]) [2] ∧ tYes σ2 H2 fun b H3 => if b = true then tTup (tCons (tOp (rIx K) (tVar 2) (tC (.int 0))) (tCons (tOp (rIx K) (tVar 2) (tC (.int 1))) tNil)) σ2 H3 fun y H4 => ∃ acc, H4 D = some (.lst acc) ∧ acc.length < sizeLine ∧ Nx (upd H4 D (.lst (acc ++ [y]))) else Nx H3) := by
          intro J D wk nD
          refine lc_gen wk TS (fun _ H => Same H2 H) (fun i y H => ∀ e, (itemsD d)[i]? = some e → Im H y (pairOf e)) (Nat.le_trans l2 (by decide)) (fun H acc acc' h => TS.lst h) (fun i H acc acc' _ gd => same_at gd nD) (fun j y H H' t h e ee => (h e ee).on t) (same_new nD) (fun i H gd => gd) (fun i y H3 H4 acc Z hi2 s3 hacc hy k => ?_) (fun H3 ys s3 h3 hlen hR => ?_)
          · obtain ⟨rfl, ey⟩ := hy
            obtain ⟨e, ee⟩ : ∃ e, (itemsD d)[i]? = some e := ⟨_, List.getElem?_eq_getElem (show i < (itemsD d).length by omega)⟩
            obtain ⟨re, x, z, n, ie, _⟩ := wayD_true (each i e ee)
            have dy := ((hi i y e ey ee).on s2).on s3
            obtain ⟨c, zs, rfl, hc, hcl, hci⟩ := dy.items re
            rw [ie] at hcl hci
            obtain ⟨z1, z2, z3, rfl⟩ : ∃ z1 z2 z3, zs = [z1, z2, z3] := by
              match zs, hcl with
              | [z1, z2, z3], _ => exact ⟨z1, z2, z3, rfl⟩
            obtain rfl : z1 = .str x := by
              cases hci 0 z1 (.str x) rfl rfl
              rfl
            obtain rfl : z2 = .str z := by
              cases hci 1 z2 (.str z) rfl rfl
              rfl
            have ix : ∀ (j : Nat) u, [V.str x, V.str z, z3][j]? = some u → ∀ Q' : VK, Q' u H4 → rIx K (.ref c) (.int j) H4 Q' := fun j u ej Q' q' =>
              hc.elim (fun h => .inl ⟨c, _, _, u, rfl, rfl, SqL.of h, atI_nat ej, q'⟩) fun h => .inr (.inl ⟨c, _, _, u, rfl, rfl, SqT.of h, atI_nat ej, q'⟩)
            refine ⟨rfl, _, rfl, ix 0 _ rfl _ ?_⟩
            refine ⟨_, rfl, ix 1 _ rfl _ ?_⟩
            refine ⟨by show 2 ≤ sizeLine; decide, fun p np => ?_⟩
            refine k _ _ ((same_new np) _ _ hacc) (TS.new np) (s3.trans (same_new np)) fun e' ee' => ?_
            cases ee.symm.trans ee'
            have ep : pairOf e = .tuple [.str x, .str z] := by
              unfold pairOf
              rw [ie]
              rfl
            rw [ep]
            exact .tup upd_same (.cons (.str x) (.cons (.str z) .nil))
          · have im : Ims H3 ys ((itemsD d).map pairOf) := Ims.of (by rw [List.length_map, hlen, hl]) fun i v' d' e1 e2 => by
              rw [List.getElem?_map] at e2
              cases ee : (itemsD d)[i]? with
              | none =>
                rw [ee] at e2
                cases e2
              | some e =>
                rw [ee] at e2
                cases e2
                exact hR i v' e1 e ee
            have pr : ∀ d' ∈ (itemsD d).map pairOf, ∃ x y, d' = .tuple [.str x, .str y] := fun d' hd' => by
              obtain ⟨e, he, rfl⟩ := List.mem_map.mp hd'
              obtain ⟨i, ee⟩ := List.getElem?_of_mem he
              obtain ⟨_, x, z, n, ie, _⟩ := wayD_true (each i e ee)
              refine ⟨x, z, ?_⟩
              unfold pairOf
              rw [ie]
              rfl
            refine ⟨D, ys, (itemsD d).map pairOf, rfl, .inl (SqL.of h3), im.dp, by rw [hlen]; exact Nat.le_trans l2 (by decide), fun d1 h1 d2 h2 => ?_, fun d1 h1 => ?_, fun H5 s5 => ?_⟩
            · obtain ⟨x, y, rfl⟩ := pr d1 h1
              obtain ⟨x', y', rfl⟩ := pr d2 h2
              rfl
            · obtain ⟨x, y, rfl⟩ := pr d1 h1
              exact ⟨nofun, by show PyData.depth _ ≤ 20; simp [PyData.depth, PyData.depthAll]⟩
            · have := q H5 (((s1.trans s2).trans s3).trans s5)
              rw [ef, al, Bool.true_and] at this
              exact this
        rcases walk1 H2 s2 with ⟨h1, wk⟩ | ⟨h1, wk⟩
        · exact .inl ⟨h1, fun D nD => item _ D wk nD⟩
        · exact .inr ⟨h1, fun D nD => item _ D wk nD⟩
      · rw [decide_eq_true (show (150 : Int) < ((xs.length : Nat) : Int) by omega)]
        exact iteT (no H1 s1 (by unfold waysD; rw [decide_eq_false (show ¬ (itemsD d).length ≤ 150 by omega)]; simp))
end
end Cry
/-! is_web, own_web. -/
namespace Cry
open PySem PySem.Spec PyProof.Rows L2
section
variable {P : Program} {w : World} {K : PySem.W.Frag} {mg : Str → Option Value} {base : Heap}
/-! ### is_web -/
theorem scIsWeb : FnScope ["thing", "folk", "ways"] ["thing"] (defScope sIsWeb) := ⟨rfl, rfl, rfl, by decide +kernel, rfl, by decide +kernel, by decide +kernel⟩
def textOf : PyData → Str
  | .str x => x
  | _ => ""
def namesD (f : PyData) : List Str := (itemsD f).map textOf
def webD (d : PyData) : Bool :=
  rowOfD 2 d && match itemsD d with
    | [f, ws] => folkD f && waysD (namesD f) ws
    | _ => false
theorem namesD_strs {names : List Str} {f : PyData} (h : itemsD f = names.map PyData.str) : namesD f = names := by
  unfold namesD
  rw [h, List.map_map]
  have : (textOf ∘ PyData.str) = id := rfl
  rw [this, List.map_id]
theorem folkD_names {H : Hp} {v : V} {f : PyData} (h : Da H v f) (t : folkD f = true) : ∃ a xs, v = .ref a ∧ (H a = some (.lst xs) ∨ H a = some (.tup xs)) ∧ xs = (namesD f).map V.str ∧ itemsD f = (namesD f).map PyData.str ∧ (∀ x ∈ namesD f, nameOkS x = true) ∧
    1 ≤ (namesD f).length ∧ (namesD f).length ≤ 60 ∧ risingD ((namesD f).map PyData.str) = true := by
  have t' : rowD f = true ∧ 1 ≤ (itemsD f).length ∧ (itemsD f).length ≤ 60 ∧ (itemsD f).all nameD = true ∧ risingD (itemsD f) = true := by
    unfold folkD at t
    rw [Bool.and_eq_true, Bool.and_eq_true, Bool.and_eq_true, Bool.and_eq_true, decide_eq_true_eq, decide_eq_true_eq] at t
    exact ⟨t.1.1.1.1, t.1.1.1.2, t.1.1.2, t.1.2, t.2⟩
  obtain ⟨a, xs, rfl, hs, hl, hi⟩ := h.items t'.1
  obtain ⟨names, en, ed, on⟩ := names_of hl hi t'.2.2.2.1
  have e := namesD_strs ed
  rw [e]
  have ll : (itemsD f).length = names.length := by rw [ed, List.length_map]
  exact ⟨a, xs, rfl, hs, en, ed, on, by omega, by omega, by rw [← ed]; exact t'.2.2.2.2⟩
theorem webD_two {d : PyData} (h : rowOfD 2 d = true) : rowD d = true ∧ ∃ f ws, itemsD d = [f, ws] ∧ webD d = (folkD f && waysD (namesD f) ws) := by
  have r : rowD d = true ∧ (itemsD d).length = 2 := by simpa [rowOfD] using h
  refine ⟨r.1, ?_⟩
  match ei : itemsD d, r.2 with
  | [f, ws], _ =>
    refine ⟨f, ws, rfl, ?_⟩
    unfold webD
    rw [h, ei, Bool.true_and]
theorem ok_is_web {f f1 f2 : Addr} {fd fd1 fd2 : FuncData} (F : Fun K "is_web" "is_web" sIsWeb f fd) (T : FormDefs P w K mg base) (D1 : Def K mg "are_folk" f1 fd1 ["thing"]) (G1 : FnOk P w K mg base CX0 2 f1 fd1 ["thing"] (spJudge K folkD))
    (D2 : Def K mg "are_ways" f2 fd2 ["folk", "thing"]) (G2 : FnOk P w K mg base CX0 4 f2 fd2 ["folk", "thing"] (spAreWays K)) : FnOk P w K mg base CX0 5 f fd ["thing"] (spJudge K webD) := by
  refine F.ok scIsWeb (fun vs H Q E h => ?_) (fun cdv A outer s H vs Q E hr h => ?_)
  · obtain ⟨v, d, rfl, _⟩ := h
    rfl
  · obtain ⟨v, d, rfl, hd, q⟩ := h
    refine ⟨_, pss_cons (ps_if (pt_not (pt_val (pe_call T.G1 (hr.mono (by decide)) (by rfl) T.D1.at_ T.D1.kp T.D1.b .nil pass0 (pa_cons pe_int (pa_cons (pv 0) pa_nil))))) (pss_one (ps_ret pe_bl)) pss_nil)
      (pss_cons (ps_asg (pv 0) (pg_row rfl (pgs_cons (pg_name (i := 1) scIsWeb.nd rfl (Or.inl rfl)) (pgs_cons (pg_name (i := 2) scIsWeb.nd rfl (Or.inl rfl)) pgs_nil))))
      (pss_one (ps_ret (pe_and (pe_call G1 (hr.mono (by decide)) (by rfl) D1.at_ D1.kp D1.b .nil pass0 (pa_cons (pv 1) pa_nil)) (pe_one (pe_call G2 hr (by rfl) D2.at_ D2.kp D2.b .nil pass0 (pa_cons (pv 1) (pa_cons (pv 2) pa_nil)))))))), ?_⟩
    refine ⟨_, rfl, 2, v, d, rfl, hd, fun H1 s1 => ⟨_, rfl, ?_⟩⟩
    cases r : rowOfD 2 d with
    | false =>
      refine iteT ?_
      have := q H1 s1
      unfold webD at this
      rw [r] at this
      exact this
    | true =>
      obtain ⟨rd, df, dw, ei, ew⟩ := webD_two r
      refine iteF ?_
      obtain ⟨b, xs, rfl, hs, hl, hi⟩ := (hd.on s1).items rd
      rw [ei] at hl hi
      obtain ⟨x1, x2, rfl⟩ : ∃ x1 x2, xs = [x1, x2] := by
        match xs, hl with
        | [x1, x2], _ => exact ⟨x1, x2, rfl⟩
      have e1 := hi 0 x1 df rfl rfl
      have e2 := hi 1 x2 dw rfl rfl
      rw [ew] at q
      refine ⟨_, rfl, b, _, rfl, seq_of hs, rfl, _, _, rfl, _, _, rfl, rfl, ?_⟩
      refine ⟨_, rfl, x1, df, rfl, e1, fun H2 s2 => ⟨_, rfl, ?_⟩⟩
      cases fk : folkD df with
      | false =>
        refine iteF ?_
        have := q H2 (s1.trans s2)
        rw [fk] at this
        exact this
      | true =>
        obtain ⟨a, ys, rfl, ha, en, _⟩ := folkD_names (e1.on s2) fk
        refine iteT ⟨_, rfl, _, rfl, a, namesD df, x2, dw, rfl, ?_, e2.on s2, fun H3 s3 => ?_⟩
        · rw [← en]
          exact seq_of ha
        · have := q H3 ((s1.trans s2).trans s3)
          rw [fk, Bool.true_and] at this
          exact this
/-! ### a web as lists of names and of ways -/
abbrev Way := Str × Str × Int
def wayD3 (y : Way) : PyData := .tuple [.str y.1, .str y.2.1, .int y.2.2]
def pairD (y : Way) : PyData := .tuple [.str y.1, .str y.2.1]
structure WebOk (names : List Str) (ways : List Way) : Prop where
  ok : ∀ x ∈ names, nameOkS x = true
  one : 1 ≤ names.length
  most : names.length ≤ 60
  up : risingD (names.map PyData.str) = true
  few : ways.length ≤ 150
  way : ∀ y ∈ ways, nameOkS y.1 = true ∧ nameOkS y.2.1 = true ∧ 1 ≤ y.2.2 ∧ y.2.2 ≤ 1000000000000 ∧ inNames y.1 names = true ∧ inNames y.2.1 names = true ∧ ltS y.1 y.2.1 = true
  upw : risingD (ways.map pairD) = true
def intOf : PyData → Int
  | .int n => n
  | _ => 0
def wayOf (e : PyData) : Way := (textOf (((itemsD e)[0]?).getD .none), textOf (((itemsD e)[1]?).getD .none), intOf (((itemsD e)[2]?).getD .none))
def folkOf (d : PyData) : List Str := namesD (((itemsD d)[0]?).getD .none)
def waysOf (d : PyData) : List Way := (itemsD (((itemsD d)[1]?).getD .none)).map wayOf
theorem waysD_true {names : List Str} {d : PyData} (h : waysD names d = true) : rowD d = true ∧ (itemsD d).length ≤ 150 ∧ (∀ e ∈ itemsD d, wayD names e = true) ∧ risingD ((itemsD d).map pairOf) = true := by
  unfold waysD at h
  rw [Bool.and_eq_true, Bool.and_eq_true, Bool.and_eq_true, decide_eq_true_eq, List.all_eq_true] at h
  exact ⟨h.1.1.1, h.1.1.2, h.1.2, h.2⟩
theorem webOk_of {H : Hp} {v : V} {d : PyData} (hd : Da H v d) (h : webD d = true) : WebOk (folkOf d) (waysOf d) ∧ ∃ df dw, itemsD d = [df, dw] ∧ folkD df = true ∧ waysD (namesD df) dw = true ∧ folkOf d = namesD df ∧ waysOf d = (itemsD dw).map wayOf := by
  have r : rowOfD 2 d = true := by
    unfold webD at h
    rw [Bool.and_eq_true] at h
    exact h.1
  obtain ⟨rd, df, dw, ei, ew⟩ := webD_two r
  rw [ew, Bool.and_eq_true] at h
  obtain ⟨b, xs, rfl, hs, hl, hi⟩ := hd.items rd
  rw [ei] at hl hi
  obtain ⟨x1, x2, rfl⟩ : ∃ x1 x2, xs = [x1, x2] := by
    match xs, hl with
    | [x1, x2], _ => exact ⟨x1, x2, rfl⟩
  obtain ⟨a, ys, rfl, ha, en, ed, on, l1, l2, up⟩ := folkD_names (hi 0 x1 df rfl rfl) h.1
  obtain ⟨r2, few, each, upw⟩ := waysD_true h.2
  have ef : folkOf d = namesD df := by
    unfold folkOf
    rw [ei]
    rfl
  have eway : waysOf d = (itemsD dw).map wayOf := by
    unfold waysOf
    rw [ei]
    rfl
  refine ⟨⟨by rw [ef]; exact on, by rw [ef]; exact l1, by rw [ef]; exact l2, by rw [ef]; exact up, by rw [eway, List.length_map]; exact few, fun y hy => ?_, ?_⟩, df, dw, ei, h.1, h.2, ef, eway⟩
  · rw [eway] at hy
    obtain ⟨e, he, rfl⟩ := List.mem_map.mp hy
    obtain ⟨_, x, z, n, ie, o1, o2, n1, n2, i1, i2, lt⟩ := wayD_true (each e he)
    have ew : wayOf e = (x, z, n) := by
      unfold wayOf
      rw [ie]
      rfl
    rw [ew, ef]
    exact ⟨o1, o2, n1, n2, i1, i2, lt⟩
  · rw [eway, List.map_map]
    have e : (itemsD dw).map (pairD ∘ wayOf) = (itemsD dw).map pairOf := by
      refine List.map_congr_left fun e he => ?_
      obtain ⟨_, x, z, n, ie, _⟩ := wayD_true (each e he)
      show pairD (wayOf e) = pairOf e
      unfold pairD wayOf pairOf
      rw [ie]
      rfl
    rw [e]
    exact upw
/-! ### own_web -/
theorem scOwnWeb : FnScope ["web", "folk", "ways", "way"] ["web"] (defScope sOwnWeb) := ⟨rfl, rfl, rfl, by decide +kernel, rfl, by decide +kernel, by decide +kernel⟩
/-- a web of the told kinds, all new -/
structure OwnAt (H H' : Hp) (T : Addr) (names : List Str) (ways : List Way) : Prop where
  same : Same H H'
  new : H T = none
  ex : ∃ F W ws, H' T = some (.tup [.ref F, .ref W]) ∧ H F = none ∧ H W = none ∧ H' F = some (.lst (names.map V.str)) ∧ H' W = some (.lst ws) ∧ Ims H' ws (ways.map wayD3)
def spOwnWeb : Sp := fun vs H Q _ => ∃ (v : V) (d : PyData), vs = [v] ∧ Da H v d ∧ webD d = true ∧ ∀ T H', OwnAt H H' T (folkOf d) (waysOf d) → Q (.ref T) H'
def rTupOf (K : PySem.W.Frag) : List V → Hp → VK → Prop := fun xs H Q => ∃ p ys, xs = [V.ref p] ∧ ((SqL K H p ys ∧ ∀ (l : Addr), H l = none → Q (.ref l) (upd H l (.tup ys))) ∨ (SqT K H p ys ∧ Q (.ref p) H))
theorem ok_own_web {f f1 : Addr} {fd fd1 : FuncData} (F : Fun K "own_web" "own_web" sOwnWeb f fd) (B : Blt mg) (D1 : Def K mg "is_web" f1 fd1 ["thing"]) (G1 : FnOk P w K mg base CX0 5 f1 fd1 ["thing"] (spJudge K webD)) : FnOk P w K mg base CX0 6 f fd ["web"] spOwnWeb := by
  refine F.ok scOwnWeb (fun vs H Q E h => ?_) (fun cdv A outer s H vs Q E hr h => ?_)
  · obtain ⟨v, d, rfl, _⟩ := h
    rfl
  · obtain ⟨v, d, rfl, hd, hw, q⟩ := h
    refine ⟨_, pss_cons (ps_if (pt_not (pt_val (pe_call G1 hr (by rfl) D1.at_ D1.kp D1.b .nil pass0 (pa_cons (pv 0) pa_nil)))) (pss_one ps_never) pss_nil)
      (pss_cons (ps_asg (pv 0) (pg_row rfl (pgs_cons (pg_name (i := 1) scOwnWeb.nd rfl (Or.inl rfl)) (pgs_cons (pg_name (i := 2) scOwnWeb.nd rfl (Or.inl rfl)) pgs_nil))))
      (pss_one (ps_ret (pe_tup (pa_cons (pe_callTy call_list_of (by rfl) B.list (by decide +kernel) (pa_cons (pv 1) pa_nil)) (pa_cons
        (pe_lc (own := [("way", 3)]) (g := gName 3) (tt := tYes) (te := tCB (rTupOf K) (tCons (tVar 3) tNil)) rfl scOwnWeb.nd (pi_row (pv 2)) (blkOk_by (N := ["web", "folk", "ways", "way"]) (sc := defScope sOwnWeb) (by decide +kernel))
          (fun _ _ _ _ _ => pg_name (i := 3) scOwnWeb.nd rfl (Or.inl rfl)) (fun _ _ _ _ _ => pts_nil) (fun _ _ _ _ _ => pe_callTy call_tuple_of (by rfl) B.tuple (by decide +kernel) (pa_cons (pv 3) pa_nil))) pa_nil)))))), ?_⟩
    refine ⟨_, rfl, v, d, rfl, hd, fun H1 s1 => ⟨_, rfl, ?_⟩⟩
    rw [hw]
    refine iteF ?_
    obtain ⟨_, df, dw, ei, hf, hws, e1, e2⟩ := webOk_of hd hw
    rw [e1, e2] at q
    have r : rowD d = true := by
      unfold webD at hw
      rw [Bool.and_eq_true] at hw
      exact (by simpa [rowOfD] using hw.1 : rowD d = true ∧ _).1
    obtain ⟨b, xs, rfl, hs, hl, hi⟩ := (hd.on s1).items r
    rw [ei] at hl hi
    obtain ⟨x1, x2, rfl⟩ : ∃ x1 x2, xs = [x1, x2] := by
      match xs, hl with
      | [x1, x2], _ => exact ⟨x1, x2, rfl⟩
    obtain ⟨a, ys, rfl, ha, en, _⟩ := folkD_names (hi 0 x1 df rfl rfl) hf
    obtain ⟨rw_, few, each, _⟩ := waysD_true hws
    obtain ⟨c, zs, rfl, hc, hcl, hci⟩ := (hi 1 x2 dw rfl rfl).items rw_
    refine ⟨_, rfl, b, _, rfl, seq_of hs, rfl, _, _, rfl, _, _, rfl, rfl, ?_⟩
    -- list(folk)
    refine ⟨_, rfl, a, ys, rfl, seq_of ha, fun F nF => ?_⟩
    have sF : Same H1 (upd H1 F (.lst ys)) := same_new nF
    -- [tuple(way) for way in ways]
    refine ⟨_, rfl, c, rfl, ?_⟩
    have item : ∀ (J : It) (D : Addr), Walk J zs.length (fun H3 => Same (upd H1 F (.lst ys)) H3) (YAt zs) → (upd H1 F (.lst ys)) D = none → ∀ Qd : Hp → Prop,
        (∀ H3 ws, Same (upd H1 F (.lst ys)) H3 → H3 D = some (.lst ws) → Ims H3 ws (((itemsD dw).map wayOf).map wayD3) → Qd H3) →
        ∃ W : Nat → Nat → Hp → Prop, (∃ m, W 0 m (upd (upd H1 F (.lst ys)) D (.lst []))) ∧ ∀ i m H, W i m H → (J.stop i H ∧ Qd H) ∨
          (J.go i H ∧ ∃ Nx : Hp → Prop, (∀ H', Nx H' → ∃ m', m' < m ∧ W (i + 1) m' H') ∧ ∀ x H', J.yld i H x H' → gName 3 x (wipe [some (V.ref b), some (V.ref a), some (V.ref c), none] [3]) H' fun σ2 H2 =>
            wipe σ2 [3] = wipe [some (V.ref b), some (V.ref a), some (V.ref c), none] [3] ∧ tYes σ2 H2 fun b H3 => if b = true then tCB (rTupOf K) (tCons (tVar 3) tNil) σ2 H3 fun y H4 => ∃ acc, H4 D = some (.lst acc) ∧ acc.length < sizeLine ∧ Nx (upd H4 D (.lst (acc ++ [y]))) else Nx H3) := by
      intro J D wk nD Qd hQd
      refine lc_gen wk TS (fun _ H => Same (upd H1 F (.lst ys)) H) (fun i y H => ∀ e, (itemsD dw)[i]? = some e → Im H y (wayD3 (wayOf e))) (by rw [hcl]; exact Nat.le_trans few (by decide)) (fun H acc acc' h => TS.lst h) (fun i H acc acc' _ gd => same_at gd nD)
        (fun j y H H' t h e ee => (h e ee).on t) (same_new nD) (fun i H gd => gd) (fun i y H3 H4 acc Z hi2 s3 hacc hy k => ?_) (fun H3 ws s3 h3 hlen hR => ?_)
      · obtain ⟨rfl, ey⟩ := hy
        obtain ⟨e, ee⟩ : ∃ e, (itemsD dw)[i]? = some e := ⟨_, List.getElem?_eq_getElem (show i < (itemsD dw).length by omega)⟩
        obtain ⟨re, x, z, n, ie, _⟩ := wayD_true (each e (List.mem_of_getElem? ee))
        obtain ⟨p, us, rfl, hp, hpl, hpi⟩ := (((hci i y e ey ee).on sF).on s3).items re
        rw [ie] at hpl hpi
        obtain ⟨u1, u2, u3, rfl⟩ : ∃ u1 u2 u3, us = [u1, u2, u3] := by
          match us, hpl with
          | [u1, u2, u3], _ => exact ⟨u1, u2, u3, rfl⟩
        obtain rfl : u1 = .str x := by
          cases hpi 0 u1 (.str x) rfl rfl
          rfl
        obtain rfl : u2 = .str z := by
          cases hpi 1 u2 (.str z) rfl rfl
          rfl
        obtain rfl : u3 = .int n := by
          cases hpi 2 u3 (.int n) rfl rfl
          rfl
        have ew : wayD3 (wayOf e) = .tuple [.str x, .str z, .int n] := by
          unfold wayD3 wayOf
          rw [ie]
          rfl
        refine ⟨rfl, _, rfl, p, [.str x, .str z, .int n], rfl, ?_⟩
        rcases hp with hp | hp
        · refine .inl ⟨SqL.of hp, fun l nl => ?_⟩
          refine k _ _ ((same_new nl) _ _ hacc) (TS.new nl) (s3.trans (same_new nl)) fun e' ee' => ?_
          cases ee.symm.trans ee'
          rw [ew]
          exact .tup upd_same (.cons (.str x) (.cons (.str z) (.cons (.int n) .nil)))
        · refine .inr ⟨SqT.of hp, ?_⟩
          refine k _ _ hacc (TS.refl _) s3 fun e' ee' => ?_
          cases ee.symm.trans ee'
          rw [ew]
          exact .tup hp (.cons (.str x) (.cons (.str z) (.cons (.int n) .nil)))
      · refine hQd H3 ws s3 h3 (Ims.of (by rw [List.length_map, List.length_map, hlen, hcl]) fun i v' d' e1 e2 => ?_)
        rw [List.map_map, List.getElem?_map] at e2
        cases ee : (itemsD dw)[i]? with
        | none =>
          rw [ee] at e2
          cases e2
        | some e =>
          rw [ee] at e2
          cases e2
          exact hR i v' e1 e ee
    have fin : ∀ D, (upd H1 F (.lst ys)) D = none → ∀ H3 ws, Same (upd H1 F (.lst ys)) H3 → H3 D = some (.lst ws) → Ims H3 ws (((itemsD dw).map wayOf).map wayD3) → ([V.ref F, V.ref D].length ≤ sizeLine ∧ ∀ p, H3 p = none → Q (.ref p) (upd H3 p (.tup [.ref F, .ref D]))) := by
      intro D nD H3 ws s3 h3 im
      refine ⟨by show 2 ≤ sizeLine; decide, fun T nT => q T _ ?_⟩
      have sT : Same H3 (upd H3 T (.tup [.ref F, .ref D])) := same_new nT
      have sAll : Same H H3 := (s1.trans sF).trans s3
      refine ⟨sAll.trans sT, sAll.free nT, F, D, ws, upd_same, s1.free nF, (s1.trans sF).free nD, ?_, sT _ _ h3, im.on (TS.same sT)⟩
      rw [← en]
      exact sT _ _ (s3 _ _ upd_same)
    rcases hc with hc | hc
    · exact .inl ⟨⟨zs, sF.seq (SqL.of hc)⟩, fun D nD => item _ D (walk_list.mono (fun H2 s2 => s2.seq (sF.seq (SqL.of hc))) fun _ _ _ _ _ _ y => y) nD _ (fin D nD)⟩
    · exact .inr ⟨⟨zs, sqT_same sF (SqT.of hc)⟩, fun D nD => item _ D (walk_tup.mono (fun H2 s2 => sqT_same s2 (sqT_same sF (SqT.of hc))) fun _ _ _ _ _ _ y => y) nD _ (fin D nD)⟩
end
end Cry
/-! Places: beats_between, person, place_on, numbers_beside. -/
namespace Cry
open PySem PySem.Spec PyProof.Rows L2
theorem abc_small : ∀ c ∈ abc.cps.toList, c < 0x110000 := by decide +kernel
theorem name_strOk {x : Str} (h : nameOkS x = true) : PySem.PyData.strOk x = true := by
  unfold nameOkS at h
  rw [Bool.and_eq_true, List.all_eq_true] at h
  unfold PySem.PyData.strOk
  rw [Array.all_eq_true_iff_forall_mem]
  intro c hc
  exact decide_eq_true (abc_small c (of_decide_eq_true (h.2 c (by simpa using hc))))
theorem beq_str (x y : Str) : (x == y) = decide (x = y) := by
  by_cases h : x = y
  · rw [h]
    simp
  · rw [decide_eq_false h]
    exact beq_eq_false_iff_ne.mpr h
theorem eqv_place (p q : Way) : PyData.eqv (wayD3 p) (wayD3 q) = decide (p = q) := by
  obtain ⟨a, b, n⟩ := p
  obtain ⟨c, d, m⟩ := q
  show PyData.eqv (.tuple [.str a, .str b, .int n]) (.tuple [.str c, .str d, .int m]) = _
  simp only [PyData.eqv, PyData.eqvAll, beq_str, Bool.and_true]
  by_cases h1 : a = c <;> by_cases h2 : b = d <;> by_cases h3 : n = m <;> simp [h1, h2, h3]
theorem shaped_place {p : Way} (h1 : nameOkS p.1 = true) (h2 : nameOkS p.2.1 = true) : SeqAt.shaped (wayD3 p) = true := by
  obtain ⟨a, b, n⟩ := p
  show SeqAt.shaped (.tuple [.str a, .str b, .int n]) = true
  unfold SeqAt.shaped
  simp [PyData.canLay0, PyData.canLayAll0, name_strOk h1, name_strOk h2, PyData.depth, PyData.depthAll]
/-- the tuple that stands for a place, or for a way -/
theorem im_way {H : Hp} {v : V} {y : Way} (h : Im H v (wayD3 y)) : ∃ a, v = .ref a ∧ H a = some (.tup [.str y.1, .str y.2.1, .int y.2.2]) := by
  obtain ⟨a, b, n⟩ := y
  cases h with
  | tup h s =>
    rename_i p xs
    cases s with
    | cons h1 s =>
      cases h1
      cases s with
      | cons h2 s =>
        cases h2
        cases s with
        | cons h3 s =>
          cases h3
          cases s
          exact ⟨_, rfl, h⟩
theorem way_im {H : Hp} {a : Addr} {y : Way} (h : H a = some (.tup [.str y.1, .str y.2.1, .int y.2.2])) : Im H (.ref a) (wayD3 y) := .tup h (.cons (.str _) (.cons (.str _) (.cons (.int _) .nil)))
section
variable {P : Program} {w : World} {K : PySem.W.Frag} {mg : Str → Option Value} {base : Heap}
def personP (x : Str) : Way := (x, x, 0)
def gives (H : Hp) (Q : VK) (d : PyData) : Prop := ∀ v H', Same H H' → Im H' v d → Q v H'
theorem dec_int (i j : Int) : decide (V.int i = V.int j) = decide (i = j) := by
  by_cases h : i = j
  · rw [h]
    simp
  · rw [decide_eq_false h]
    exact decide_eq_false fun z => h (V.int.inj z)
theorem dec_str (x y : Str) : decide (V.str x = V.str y) = decide (x = y) := by
  by_cases h : x = y
  · rw [h]
    simp
  · rw [decide_eq_false h]
    exact decide_eq_false fun z => h (V.str.inj z)
/-! ### beats_between -/
def between (ways : List Way) (x y : Str) : Int := ((ways.find? fun z => decide (z.1 = x) && decide (z.2.1 = y)).map fun z => z.2.2).getD 0
/-- a web of the told kinds stands at T -/
def WebAt (H : Hp) (T : Addr) (names : List Str) (ways : List Way) : Prop := ∃ F W ws, H T = some (.tup [.ref F, .ref W]) ∧ H F = some (.lst (names.map V.str)) ∧ H W = some (.lst ws) ∧ Ims H ws (ways.map wayD3)
theorem WebAt.on {H H' : Hp} {T : Addr} {names : List Str} {ways : List Way} (s : Same H H') (h : WebAt H T names ways) : WebAt H' T names ways := by
  obtain ⟨F, W, ws, h1, h2, h3, h4⟩ := h
  exact ⟨F, W, ws, s _ _ h1, s _ _ h2, s _ _ h3, h4.on (TS.same s)⟩
theorem OwnAt.web {H H' : Hp} {T : Addr} {names : List Str} {ways : List Way} (h : OwnAt H H' T names ways) : WebAt H' T names ways := by
  obtain ⟨F, W, ws, h1, _, _, h2, h3, h4⟩ := h.ex
  exact ⟨F, W, ws, h1, h2, h3, h4⟩
theorem scBetween : FnScope ["web", "one", "other", "first", "second", "beats"] ["web", "one", "other"] (defScope sBetween) := ⟨rfl, rfl, rfl, by decide +kernel, rfl, by decide +kernel, by decide +kernel⟩
def spBetween : Sp := fun vs H Q _ => ∃ (T : Addr) (x y : Str) (names : List Str) (ways : List Way), vs = [.ref T, .str x, .str y] ∧ WebAt H T names ways ∧ Q (.int (between ways x y)) H
theorem between_take {ways : List Way} {x y : Str} {i : Nat} {z : Way} (h : ways[i]? = some z) (no : ∀ (j : Nat) u, j < i → ways[j]? = some u → ¬ (u.1 = x ∧ u.2.1 = y)) (e : z.1 = x ∧ z.2.1 = y) : between ways x y = z.2.2 := by
  unfold between
  have f : ways.find? (fun z => decide (z.1 = x) && decide (z.2.1 = y)) = some z := by
    rw [List.find?_eq_some_iff_getElem]
    obtain ⟨hi, hz⟩ := List.getElem?_eq_some_iff.mp h
    refine ⟨by simp [e.1, e.2], i, hi, hz, fun j hj => ?_⟩
    have := no j ways[j] hj (List.getElem?_eq_getElem (by omega))
    by_cases h1 : ways[j].1 = x <;> by_cases h2 : ways[j].2.1 = y <;> simp_all
  rw [f]
  rfl
theorem between_none {ways : List Way} {x y : Str} (no : ∀ u ∈ ways, ¬ (u.1 = x ∧ u.2.1 = y)) : between ways x y = 0 := by
  unfold between
  have f : ways.find? (fun z => decide (z.1 = x) && decide (z.2.1 = y)) = none := by
    rw [List.find?_eq_none]
    intro u hu
    simpa using no u hu
  rw [f]
  rfl
theorem ok_between {f : Addr} {fd : FuncData} (F : Fun K "beats_between" "beats_between" sBetween f fd) : FnOk P w K mg base CX0 1 f fd ["web", "one", "other"] spBetween := by
  refine F.ok scBetween (fun vs H Q E h => ?_) (fun cdv A outer s H vs Q E hr h => ?_)
  · obtain ⟨T, x, y, names, ways, rfl, _⟩ := h
    rfl
  · obtain ⟨T, x, y, names, ways, rfl, ⟨F', W, ws, hT, hF, hW, hI⟩, q⟩ := h
    refine ⟨_, pss_cons (ps_for PassesOwn.never rfl (pi_list (pe_ix ix_tup (pv 0) pe_int (fun _ _ => rfl))) (pg_tup rfl (pgs_cons (pg_name (i := 3) scBetween.nd rfl (Or.inl rfl)) (pgs_cons (pg_name (i := 4) scBetween.nd rfl (Or.inl rfl)) (pgs_cons (pg_name (i := 5) scBetween.nd rfl (Or.inl rfl)) pgs_nil))))
        (pss_one (ps_if (PW.pt (pw_and (pt_cmpR op_eq (pv 3) (pv 1) (nomark _)) (pw_and1 (pt_cmpR op_eq (pv 4) (pv 2) (nomark _))))) (pss_one (ps_ret (pv 5))) pss_nil)))
      (pss_one (ps_ret pe_int)), ?_⟩
    have lw := hI.length
    rw [List.length_map] at lw
    refine ⟨_, rfl, T, _, 1, _, rfl, rfl, SqT.of hT, atI_nat (j := 1) rfl, W, rfl, ⟨_, SqL.of hW⟩, for_list (K := K) (a := W) (xs := ws) (fun i σ H2 => H2 = H ∧ (∃ u1 u2 u3, σ = [some (.ref T), some (.str x), some (.str y), u1, u2, u3]) ∧ ∀ (j : Nat) u, j < i → ways[j]? = some u → ¬ (u.1 = x ∧ u.2.1 = y))
      ⟨rfl, ⟨none, none, none, rfl⟩, fun j u hj => absurd hj (Nat.not_lt_zero _)⟩ (fun i σ H2 _ ⟨e, _⟩ => by rw [e]; exact SqL.of hW) ?_ ?_⟩
    · rintro i v σ H2 hv ⟨rfl, ⟨u1, u2, u3, rfl⟩, no⟩
      obtain ⟨d, ed, im⟩ := Ims.at hI hv
      rw [List.getElem?_map] at ed
      obtain ⟨z, ez, rfl⟩ : ∃ z, ways[i]? = some z ∧ wayD3 z = d := by
        cases h : ways[i]? with
        | none =>
          rw [h] at ed
          cases ed
        | some z =>
          rw [h] at ed
          exact ⟨z, rfl, Option.some.inj ed⟩
      obtain ⟨a, rfl, ha⟩ := im_way im
      refine ⟨a, _, rfl, SqT.of ha, rfl, _, _, rfl, _, _, rfl, _, _, rfl, rfl, ?_⟩
      have step : ∀ u1 u2 u3, ¬ (z.1 = x ∧ z.2.1 = y) → H2 = H2 ∧ (∃ w1 w2 w3, [some (V.ref T), some (.str x), some (.str y), u1, u2, u3] = [some (V.ref T), some (.str x), some (.str y), w1, w2, w3]) ∧ ∀ (j : Nat) u, j < i + 1 → ways[j]? = some u → ¬ (u.1 = x ∧ u.2.1 = y) :=
        fun u1 u2 u3 ne => ⟨rfl, ⟨_, _, _, rfl⟩, fun j u hj hu => by
          by_cases h : j < i
          · exact no j u h hu
          · have : j = i := by omega
            rw [this, ez] at hu
            cases hu
            exact ne⟩
      refine ⟨_, rfl, _, rfl, rfl, _, rfl, ?_⟩
      rw [dec_str]
      by_cases e1 : z.1 = x
      · rw [decide_eq_true e1]
        refine iteT ⟨_, rfl, _, rfl, rfl, _, rfl, ?_⟩
        rw [dec_str]
        by_cases e2 : z.2.1 = y
        · rw [decide_eq_true e2]
          refine iteT ⟨_, rfl, ?_⟩
          rw [between_take ez no ⟨e1, e2⟩] at q
          exact q
        · rw [decide_eq_false e2]
          exact iteF (step _ _ _ fun z => e2 z.2)
      · rw [decide_eq_false e1]
        exact iteF (iteF (step _ _ _ fun z => e1 z.1))
    · rintro σ H2 ⟨rfl, ⟨u1, u2, u3, rfl⟩, no⟩
      have : between ways x y = 0 := between_none fun u hu => by
        obtain ⟨j, hj⟩ := List.getElem?_of_mem hu
        have lt : j < ways.length := (List.getElem?_eq_some_iff.mp hj).1
        exact no j u (by omega) hj
      rw [this] at q
      exact q
end
end Cry
/-! is_place, own_place, places_beside, neighbours. -/
namespace Cry
open PySem PySem.Spec PyProof.Rows L2
/-! ### sorted data -/
def sortD (ds : List PyData) : List PyData := ds.mergeSort (PySem.W.dataLe false id)
theorem sorted_ims {H : Hp} {vs : List V} {ds : List PyData} (h : Ims H vs ds) : Ims H (((vs.zip ds).mergeSort (PySem.W.dataLe false Prod.snd)).map Prod.fst) (sortD ds) := by
  have hl := h.length
  have e2 : ((vs.zip ds).mergeSort (PySem.W.dataLe false Prod.snd)).map Prod.snd = sortD ds := by
    unfold sortD
    have t := PySem.W.sort_maps (r := PySem.W.dataLe false (Prod.snd : V × PyData → PyData)) (s := PySem.W.dataLe false id) Prod.snd (l := vs.zip ds) (fun _ _ _ _ => rfl)
    rw [t, List.map_snd_zip (by omega)]
  rw [← e2]
  refine Ims.of (by simp) fun i v d h1 h2 => ?_
  rw [List.getElem?_map] at h1 h2
  cases e : ((vs.zip ds).mergeSort (PySem.W.dataLe false Prod.snd))[i]? with
  | none =>
    rw [e] at h1
    cases h1
  | some b =>
    rw [e] at h1 h2
    cases h1
    cases h2
    have m : b ∈ vs.zip ds := (List.mergeSort_perm _ _).mem_iff.mp (List.mem_of_getElem? e)
    obtain ⟨j, hj⟩ := List.getElem?_of_mem m
    obtain ⟨k1, k2⟩ := List.getElem?_zip_eq_some.mp hj
    obtain ⟨d, ed, im⟩ := Ims.at h k1
    rw [k2] at ed
    cases ed
    exact im
theorem places_alike (ps : List Way) : PySem.W.AllAlike (ps.map wayD3) := fun d hd e he => by
  obtain ⟨x, _, rfl⟩ := List.mem_map.mp hd
  obtain ⟨y, _, rfl⟩ := List.mem_map.mp he
  rfl
theorem places_sortable (ps : List Way) : PySem.W.Sortable (ps.map wayD3) := .inl fun d hd => by
  obtain ⟨x, _, rfl⟩ := List.mem_map.mp hd
  exact ⟨_, _, rfl⟩
theorem place_depth (p : Way) : (wayD3 p).depth ≤ 20 := by
  show PyData.depth (.tuple [.str p.1, .str p.2.1, .int p.2.2]) ≤ 20
  simp [PyData.depth, PyData.depthAll]
section
variable {P : Program} {w : World} {K : PySem.W.Frag} {mg : Str → Option Value} {base : Heap}
/-! ### is_place -/
def placeIn (names : List Str) (ways : List Way) : PyData → PyData → PyData → Bool
  | .str x, .str y, .int n => nameOkS x && nameOkS y && (if x = y then inNames x names && decide (n = 0) else decide (1 ≤ n) && decide (n < between ways x y))
  | _, _, _ => false
def placeOk (names : List Str) (ways : List Way) (d : PyData) : Bool :=
  rowOfD 3 d && match itemsD d with
    | [a, b, c] => placeIn names ways a b c
    | _ => false
def spIsPlace : Sp := fun vs H Q _ => ∃ (T : Addr) (names : List Str) (ways : List Way) (v : V) (d : PyData), vs = [.ref T, v] ∧ WebAt H T names ways ∧ Da H v d ∧ ∀ H', Same H H' → Q (.bl (placeOk names ways d)) H'
/-! ### own_place -/
def placeOf (d : PyData) : Way := wayOf d
theorem placeOk_true {names : List Str} {ways : List Way} {d : PyData} (h : placeOk names ways d = true) : rowD d = true ∧ ∃ x y n, itemsD d = [.str x, .str y, .int n] ∧ nameOkS x = true ∧ nameOkS y = true ∧
    (if x = y then inNames x names && decide (n = 0) else decide (1 ≤ n) && decide (n < between ways x y)) = true := by
  unfold placeOk at h
  rw [Bool.and_eq_true] at h
  obtain ⟨h1, h2⟩ := h
  have r : rowD d = true ∧ (itemsD d).length = 3 := by simpa [rowOfD] using h1
  refine ⟨r.1, ?_⟩
  match ei : itemsD d, r.2 with
  | [a, b, c], _ =>
    rw [ei] at h2
    dsimp only at h2
    match a, b, c, h2 with
    | .str x, .str y, .int n, h2 =>
      have h3 : (nameOkS x && nameOkS y && (if x = y then inNames x names && decide (n = 0) else decide (1 ≤ n) && decide (n < between ways x y))) = true := h2
      rw [Bool.and_eq_true, Bool.and_eq_true] at h3
      exact ⟨x, y, n, rfl, h3.1.1, h3.1.2, h3.2⟩
def spOwnPlace : Sp := fun vs H Q _ => ∃ (T : Addr) (names : List Str) (ways : List Way) (v : V) (d : PyData), vs = [.ref T, v] ∧ WebAt H T names ways ∧ Da H v d ∧ placeOk names ways d = true ∧ gives H Q (wayD3 (placeOf d))
end
end Cry
/-! Small rules that the draws of all laws share; sorted() of a list of texts. -/
namespace Cry
open PySem PySem.Spec PyProof.Rows L2
theorem sameO_at {H : Hp} {a : Addr} {o : HO} : SameO a H (upd H a o) := fun b u n e => by
  rw [upd_ne n]
  exact e
theorem seqIx_nat {r : Int} {n : Nat} (h0 : 0 ≤ r) (h1 : r < n) : seqIndex? r n = some r.toNat := by
  unfold seqIndex?
  simp only [show ¬ r < 0 from by omega, if_false, decide_eq_true h0, decide_eq_true h1, Bool.and_self, if_true]
theorem sameO_new {H H1 : Hp} {a p : Addr} {o : HO} (s : SameO a H H1) (np : H p = none) : SameO a H (upd H1 p o) := fun b u n e => by
  rw [upd_ne (ne_of_none e np)]
  exact s b u n e
theorem eraseIdx_perm {α : Type} : ∀ {L : List α} {k : Nat} {y : α}, L[k]? = some y → (y :: L.eraseIdx k).Perm L
  | [], _, _, h => by simp at h
  | x :: L, 0, y, h => by
    simp at h
    subst h
    exact .refl _
  | x :: L, k + 1, y, h => by
    simp at h
    have := eraseIdx_perm h
    exact (List.Perm.swap x y _).trans (this.cons x)
abbrev rLenS (K : PySem.W.Frag) : List V → Hp → VK → Prop := fun xs H Q => ∃ p ys, xs = [.ref p] ∧ (SqL K H p ys ∨ SqT K H p ys) ∧ Q (.int ys.length) H
theorem cr_lenS {X : Cx} : CallR X (.builtin "len") (rLenS X.K) := call_len_seq
theorem perm_map_inv {α β : Type} {f : α → β} {l1 l2 : List β} (p : l1.Perm l2) : ∀ ts : List α, l2 = ts.map f → ∃ us : List α, l1 = us.map f ∧ us.Perm ts := by
  induction p with
  | nil => exact fun ts e => ⟨ts, e, .refl _⟩
  | cons x _ ih =>
    intro ts e
    match ts, e with
    | t :: ts, e =>
      rw [List.map_cons, List.cons.injEq] at e
      obtain ⟨us, e1, e2⟩ := ih ts e.2
      exact ⟨t :: us, by rw [List.map_cons, e1, e.1], e2.cons t⟩
  | swap x y l =>
    intro ts e
    match ts, e with
    | t :: u :: ts, e =>
      rw [List.map_cons, List.map_cons, List.cons.injEq, List.cons.injEq] at e
      exact ⟨u :: t :: ts, by rw [List.map_cons, List.map_cons, e.1, e.2.1, e.2.2], List.Perm.swap t u ts⟩
  | trans _ _ ih1 ih2 =>
    intro ts e
    obtain ⟨us, e1, e2⟩ := ih2 ts e
    obtain ⟨ws, e3, e4⟩ := ih1 us e1
    exact ⟨ws, e3, e4.trans e2⟩
theorem cut_take (us : List Str) (m : Nat) : cutV (us.map V.str) none (some (m : Int)) = (us.take m).map V.str := by
  unfold cutV
  have h1 : HT.sIx (us.map V.str).length (us.map V.str).length (some (m : Int)) = min m us.length := by
    unfold HT.sIx
    rw [List.length_map]
    simp only [Int.toNat_natCast]
    rw [if_neg (by omega)]
  have h0 : HT.sIx (us.map V.str).length 0 none = 0 := rfl
  rw [h1, h0, List.drop_zero, Nat.sub_zero, ← List.map_take]
  congr 1
  by_cases h : m ≤ us.length
  · rw [Nat.min_eq_left h]
  · rw [Nat.min_eq_right (by omega), List.take_of_length_le (Nat.le_refl _), List.take_of_length_le (by omega)]
theorem keys_str {ks : List Key} (h : ∀ k ∈ ks, ∃ x, k = Sum.inr x) : ∃ ts : List Str, ks = ts.map Sum.inr := by
  induction ks with
  | nil => exact ⟨[], rfl⟩
  | cons k ks ih =>
    obtain ⟨x, rfl⟩ := h k (List.mem_cons_self ..)
    obtain ⟨ts, rfl⟩ := ih fun k hk => h k (List.mem_cons_of_mem _ hk)
    exact ⟨x :: ts, rfl⟩
/-! Texts and pairs of texts in their order. -/
theorem rising_of : ∀ {ds : List PyData}, ds.Pairwise (fun x y => PySem.W.dataLt x y = true) → risingD ds = true
  | [], _ => rfl
  | [_], _ => rfl
  | d :: e :: r, h => by
    obtain ⟨h1, h2⟩ := List.pairwise_cons.mp h
    show (PySem.W.dataLt d e && risingD (e :: r)) = true
    rw [h1 e (List.mem_cons_self ..), rising_of h2]
    rfl
theorem nat_lt_of {a b : List Nat} (h : ¬ b < a) (n : a ≠ b) : a < b := by
  by_cases h1 : a < b
  · exact h1
  · exact absurd (List.le_antisymm (List.not_lt.mp h) (List.not_lt.mp h1)) n
theorem str_ext {x y : Str} (h : x.cps.toList = y.cps.toList) : x = y := by
  cases x with | mk a =>
  cases y with | mk b =>
  congr
  exact Array.toList_inj.mp h
theorem eqv_str (x y : Str) : (PyData.str x).eqv (.str y) = decide (x = y) := by
  rw [← beq_str]
  rfl
/-- a kind of data whose order is strict -/
structure OrdBy (β : Type) (f : β → PyData) : Prop where
  alike : ∀ a b, PySem.W.alike (f a) (f b) = true
  tri : ∀ a b, a ≠ b → PySem.W.dataLt (f b) (f a) = false → PySem.W.dataLt (f a) (f b) = true
theorem ord_str : OrdBy Str PyData.str := ⟨fun _ _ => rfl, fun a b n h => by
  rw [PySem.W.dataLt_str, decide_eq_false_iff_not] at h
  rw [PySem.W.dataLt_str, decide_eq_true_eq]
  exact nat_lt_of h fun e => n (str_ext e)⟩
def pD (y : Str × Str) : PyData := .tuple [.str y.1, .str y.2]
theorem pLt (a b : Str × Str) : PySem.W.dataLt (pD a) (pD b) = if a.1 = b.1 then PySem.W.dataLt (.str a.2) (.str b.2) else PySem.W.dataLt (.str a.1) (.str b.1) := by
  unfold pD
  rw [PySem.W.dataLt_pair rfl rfl, eqv_str, eqv_str]
  by_cases h : a.1 = b.1
  · rw [if_pos (by simp [h]), if_pos h]
    by_cases h2 : a.2 = b.2
    · rw [if_pos (by simp [h2]), h2, PySem.W.dataLt_str]
      exact (decide_eq_false (List.lt_irrefl _)).symm
    · rw [if_neg (by simp [h2])]
  · rw [if_neg (by simp [h]), if_neg h]
theorem ord_pair : OrdBy (Str × Str) pD := ⟨fun _ _ => rfl, fun a b n h => by
  rw [pLt] at h ⊢
  by_cases e : a.1 = b.1
  · rw [if_pos e.symm] at h
    rw [if_pos e]
    exact ord_str.tri _ _ (fun e2 => n (Prod.ext e e2)) h
  · rw [if_neg (Ne.symm e)] at h
    rw [if_neg e]
    exact ord_str.tri _ _ e h⟩
theorem OrdBy.pw {β : Type} {f : β → PyData} (O : OrdBy β f) {ls : List β} (nd : ls.Nodup) (h : ls.Pairwise fun x y => PySem.W.dataLe false f x y = true) : ls.Pairwise fun x y => PySem.W.dataLt (f x) (f y) = true := by
  rw [PySem.W.dataLe_eq] at h
  have nd' : ls.Pairwise fun a b => a ≠ b := nd
  refine (h.and nd').imp fun {a b} hh => ?_
  refine O.tri _ _ hh.2 ?_
  have := hh.1
  simpa using this
theorem OrdBy.rise {β : Type} {f : β → PyData} (O : OrdBy β f) {ls : List β} (nd : ls.Nodup) (h : ls.Pairwise fun x y => PySem.W.dataLe false f x y = true) : risingD (ls.map f) = true :=
  rising_of (List.pairwise_map.mpr (O.pw nd h))
def sortB {β : Type} (f : β → PyData) (ls : List β) : List β := ls.mergeSort (PySem.W.dataLe false f)
theorem sortB_perm {β : Type} (f : β → PyData) (ls : List β) : (sortB f ls).Perm ls := List.mergeSort_perm _ _
theorem str_trans (a b c : Str) (h1 : PySem.W.dataLe false PyData.str a b = true) (h2 : PySem.W.dataLe false PyData.str b c = true) : PySem.W.dataLe false PyData.str a c = true := by
  have e := PySem.W.dataLe_str (fun x : Str => x)
  rw [show PySem.W.dataLe false PyData.str = PySem.W.dataLe false (fun b : Str => PyData.str b) from rfl, e] at h1 h2 ⊢
  simp only [decide_eq_true_eq] at h1 h2 ⊢
  exact List.le_trans h1 h2
theorem str_total (a b : Str) : (PySem.W.dataLe false PyData.str a b || PySem.W.dataLe false PyData.str b a) = true := by
  have e := PySem.W.dataLe_str (fun x : Str => x)
  rw [show PySem.W.dataLe false PyData.str = PySem.W.dataLe false (fun b : Str => PyData.str b) from rfl, e]
  simp only [Bool.or_eq_true, decide_eq_true_eq]
  exact List.le_total _ _
theorem sortS_rise {ls : List Str} (nd : ls.Nodup) : risingD ((sortB PyData.str ls).map PyData.str) = true :=
  ord_str.rise ((sortB_perm _ ls).nodup_iff.mpr nd) (List.pairwise_mergeSort str_trans str_total ls)
theorem sortS_pw {ls : List Str} (nd : ls.Nodup) : (sortB PyData.str ls).Pairwise fun x y => ltS x y = true := by
  refine (ord_str.pw ((sortB_perm _ ls).nodup_iff.mpr nd) (List.pairwise_mergeSort str_trans str_total ls)).imp fun {a b} h => ?_
  rw [PySem.W.dataLt_str] at h
  exact h
theorem sortS_vals (ls : List Str) : ((ls.map fun x => (V.str x, PyData.str x)).mergeSort (PySem.W.dataLe false Prod.snd)).map Prod.fst = (sortB PyData.str ls).map V.str := by
  have t := PySem.W.sort_maps (r := PySem.W.dataLe false PyData.str) (s := PySem.W.dataLe false (Prod.snd : V × PyData → PyData)) (fun x : Str => (V.str x, PyData.str x)) (l := ls) (fun _ _ _ _ => rfl)
  rw [← t, List.map_map]
  rfl
/-- sorted() of a list of texts -/
def rSortedT (K : PySem.W.Frag) : List V → Hp → VK → Prop := fun vs H Q => ∃ (a : Addr) (xs : List Str), vs = [V.ref a] ∧ SqL K H a (xs.map V.str) ∧ ∀ p, H p = none → Q (.ref p) (upd H p (.lst ((sortB PyData.str xs).map V.str)))
theorem cr_sortedT {X : Cx} (hu : X.A.units + 64 < cLine) : CallR X (.builtin "sorted") (rSortedT X.K) := by
  intro pins s σ H vs us Q I r h
  obtain ⟨a, xs, rfl, hs, q⟩ := h
  refine cr_sortedD hu pins s σ H _ us Q I r ⟨a, xs.map fun x => (V.str x, PyData.str x), rfl, ?_, ?_, ?_, ?_, ?_, fun p np => ?_⟩
  · rw [List.map_map]
    exact hs
  · intro b hb
    obtain ⟨x, _, rfl⟩ := List.mem_map.mp hb
    exact .str _
  · rw [List.map_map]
    intro d hd e he
    obtain ⟨x, _, rfl⟩ := List.mem_map.mp hd
    obtain ⟨y, _, rfl⟩ := List.mem_map.mp he
    rfl
  · rw [List.map_map]
    exact .inr fun d hd => by
      obtain ⟨x, _, rfl⟩ := List.mem_map.mp hd
      exact ⟨(fun e => by cases e), (fun _ e => by cases e)⟩
  · intro b hb
    obtain ⟨x, _, rfl⟩ := List.mem_map.mp hb
    simp [PyData.depth]
  · rw [sortS_vals]
    exact q p np
end Cry
namespace Cry
open PySem PySem.Spec PyProof.Rows L2
/-! sorted() of a dict whose keys are pairs of texts. -/
section
open PySem.W
variable {prog : Program} {w : World} {A : Around} {E : Value → Shared → Prop} {s : Shared} {T : String} {r d : Addr} {n : Nat} {IP : Nat → Value → Prop} {OK : Heap → Prop}
/-- what a dict's walk collects, with the heap's growth -/
theorem collect_more {R : List Value → Shared → Prop} (K : KdlSrc prog w T r d n IP OK) (hh : A.handled = none) (ok : OK s.heap) (hn : n ≤ sizeLine)
    (h : ∀ (h' : Heap) (tk : Nat) (acc : Array Value), (∀ b o, s.heap.get? b = some o → h'.get? b = some o) → s.heap.objs.size ≤ h'.objs.size → ItemsOf IP acc n → R acc.toList { s with heap := h', toks := tk }) :
    wpAny (model prog w) A (collect (.ref r)) R E s := by
  obtain ⟨lr, ld⟩ := K.there _ ok
  unfold collect
  refine wpAny_bind (wpAny_runValue (codeAny_builtin entry_proto_collect' ?_))
  rw [Around.under_plainId PySem.F.plain_proto_collect _]
  refine wpAny_bind (m := newList []) (wpAny_newObj_type (wpAny_pure ⟨plainId_quiet PySem.F.plain_list_iadd _, codeAny_builtin entry_list_iadd' ?_⟩))
  rw [Around.under_plainId PySem.F.plain_list_iadd _]
  have at0 : (s.heap.push { cls := .type "list", data := .seq ([] : List Value).toArray }).get? s.heap.objs.size = some { cls := .type "list", data := .seq #[] } := Heap.get?_push_size _ rfl
  have key := kdl_extend (A := A) (s := { s with heap := s.heap.push { cls := .type "list", data := .seq ([] : List Value).toArray } })
    (R := fun (q : Result) (s' : Shared) => ∃ (h' : Heap) (tk : Nat) (acc' : Array Value) (c' : Nat), q = .ok (.ret (.ref s.heap.objs.size)) ∧ s' = { s with heap := h', toks := tk } ∧
      (∀ b o, s.heap.get? b = some o → h'.get? b = some o) ∧ h'.get? s.heap.objs.size = some { cls := .type "list", dict := none, data := .seq acc' c', slots := #[] } ∧ ItemsOf IP acc' n)
    K hh (K.keep _ _ ok fun b _ o e => Heap.get?_push_of_some _ e) s.heap.objs.size (Nat.ne_of_gt lr) (Nat.ne_of_gt ld) (.ref s.heap.objs.size) 0 at0
    (fun h' tk acc' c' hk hS' hacc => ⟨h', tk, acc', c', rfl, rfl, fun b o e => hk b o (Nat.ne_of_lt (Heap.lt_size e)) (Heap.get?_push_of_some _ e), hS', hacc⟩) hn
  have fin : ∀ (h' : Heap) (tk : Nat) (acc' : Array Value) (c' : Nat), (∀ b o, s.heap.get? b = some o → h'.get? b = some o) → h'.get? s.heap.objs.size = some { cls := .type "list", dict := none, data := .seq acc' c', slots := #[] } →
      ItemsOf IP acc' n → R acc'.toList { s with heap := h', toks := tk } := fun h' tk acc' c' hk at1 it => h h' tk acc' hk (Nat.le_of_lt (Heap.lt_size at1)) it
  refine wpAny_mono key (fun z s' x => ?_) fun e s' x => by
    obtain ⟨_, _, _, _, e', _⟩ := x
    cases e'
  cases z with
  | done f =>
    obtain ⟨h', tk, acc', c', e, rfl, hk, at1, it⟩ := x
    cases e
    exact wpAny_bind (m := load s.heap.objs.size) (wpAny_load at1 (wpAny_pure (fin h' tk acc' c' hk at1 it)))
  | again c =>
    exact ⟨x.1, codeAny_mono x.2 fun q s2 y => by
      obtain ⟨h', tk, acc', c', rfl, rfl, hk, at1, it⟩ := y
      exact wpAny_bind (m := load s.heap.objs.size) (wpAny_load at1 (wpAny_pure (fin h' tk acc' c' hk at1 it)))⟩
end
def pK (y : Str × Str) : List Key := [Sum.inr y.1, Sum.inr y.2]
theorem pK_inj {a b : Str × Str} (h : pK a = pK b) : a = b := by
  unfold pK at h
  injection h with h1 h2
  injection h2 with h2 _
  exact Prod.ext (Sum.inr.inj h1) (Sum.inr.inj h2)
abbrev PB := Addr × (Str × Str)
def rSortedDT : List V → Hp → VK → Prop := fun vs H Q => ∃ (a : Addr) (kvs : List (List Key × V)) (ks : List (Str × Str)), vs = [V.ref a] ∧ H a = some (.dT kvs) ∧ kvs.map (·.1) = ks.map pK ∧
  ∀ p us, H p = none → Ims H us ((sortB pD ks).map pD) → Q (.ref p) (upd H p (.lst us))
theorem kt_pairs {H : Hp} : ∀ {kvs : List (List Key × V)} {xs : List (List Key × Addr × Value)}, Paired (fun (p : List Key × V) (q : List Key × Addr × Value) => p.1 = q.1 ∧ H q.2.1 = some (.tup (p.1.map kV)) ∧ RelV p.2 q.2.2) kvs xs →
    ∀ {ks : List (Str × Str)}, kvs.map (·.1) = ks.map pK → ∃ bs : List PB, xs.map (fun x => x.2.1) = bs.map (·.1) ∧ bs.map (·.2) = ks ∧ ∀ b ∈ bs, H b.1 = some (.tup [.str b.2.1, .str b.2.2])
  | _, _, .nil, ks, e => by
    cases ks with
    | nil => exact ⟨[], rfl, rfl, fun b hb => nomatch hb⟩
    | cons k ks => cases e
  | _, _, .cons (a := p) (b := x) h t, ks, e => by
    cases ks with
    | nil => cases e
    | cons k ks =>
      rw [List.map_cons, List.map_cons, List.cons.injEq] at e
      obtain ⟨bs, e1, e2, e3⟩ := kt_pairs t e.2
      refine ⟨(x.2.1, k) :: bs, by rw [List.map_cons, List.map_cons, e1], by rw [List.map_cons, e2], fun b hb => ?_⟩
      rcases List.mem_cons.mp hb with rfl | hb
      · have := h.2.1
        rw [e.1] at this
        exact this
      · exact e3 b hb
theorem refs_back : ∀ {bs : List PB} {out : List Value}, PySem.W.EachIs (fun (v : Value) (b : PB) => v = .ref b.1) out bs → Vals (bs.map fun b => V.ref b.1) out
  | _, _, .nil => .nil
  | _, _, .cons h t => .cons h (refs_back t)
theorem cr_sortedDT {X : Cx} (hc : X.calm = true) (hu : X.A.units + 64 < cLine) : CallR X (.builtin "sorted") rSortedDT := by
  intro pins s σ H vs us Q I r h
  obtain ⟨d, kvs, ks, rfl, hd, ek, q⟩ := h
  obtain ⟨u, rfl, rx⟩ := r.one
  cases rx
  obtain ⟨z, hs, xs, pr, o, es, ep, ho, hx, hdt, he, hn⟩ := (show ObjOk X.prog X.w H s.heap d (.dT kvs) from I.hok d _ hd)
  have l1 : es.size = xs.length := size_of_entries he
  have l2 : kvs.length = xs.length := Paired.length pr
  obtain ⟨bs, e1, e2, e3⟩ := kt_pairs pr ek
  have lb : bs.length = xs.length := by
    have := congrArg List.length e1
    rw [List.length_map, List.length_map] at this
    exact this.symm
  refine Calls.call_function_entry kind_sorted plain_sorted entry_sorted (args_sorted1 _) ?_
  unfold Builtin.«sorted»
  refine wpAny_bind (m := checkCount "sorted" 1 1 _) (wpAny_pure ?_)
  refine wpAny_bind (collect_more (A := X.A.in1) (kdl_raw hs hx hdt) (I.ok.hd hc) ho (by omega) fun h' tk acc kp hp it => ?_)
  have ea : acc.toList = xs.map fun x => Value.ref x.2.1 := by
    have hl : acc.toList.length = xs.length := by rw [Array.length_toList, it.1]; exact l1
    apply List.ext_getElem?
    intro j
    rw [List.getElem?_map]
    cases hj : acc.toList[j]? with
    | none =>
      have h1 := List.getElem?_eq_none_iff.mp hj
      rw [List.getElem?_eq_none (by omega)]
      all_goals rfl
    | some v =>
      obtain ⟨en, hen, hv⟩ := it.2 j v (by rw [← Array.getElem?_toList]; exact hj)
      have qe := entry_at he j
      rw [hen] at qe
      cases hb : xs[j]? with
      | none =>
        rw [hb] at qe
        exact nomatch (show some en = none from qe)
      | some b =>
        rw [hb] at qe
        have e2 : en = entryOfKey (tupleKind (mixKind X.prog X.w)) b := Option.some.inj qe
        rw [hv, e2]
        all_goals rfl
  have eb : acc.toList = bs.map fun b => Value.ref b.1 := by
    have : acc.toList = (xs.map fun x => x.2.1).map Value.ref := by
      rw [ea, List.map_map]
      rfl
    rw [this, e1, List.map_map]
    rfl
  have each : PySem.W.EachIs (fun (v : Value) (b : PB) => v = .ref b.1) acc.toList bs := by
    have q := PySem.W.EachIs.of (R := fun (v : Value) (b : PB) => v = .ref b.1) (zs := bs.map fun b => (Value.ref b.1, b)) fun p hp => by
      obtain ⟨b, hb, rfl⟩ := List.mem_map.mp hp
      rfl
    rw [List.map_map, List.map_map] at q
    rw [eb]
    simpa [Function.comp_def] using q
  have lz : acc.toList.length ≤ sizeLine := by
    rw [eb, List.length_map]
    omega
  refine wpAny_bind (wpAny_newList ?_ lz)
  have hoL : (h'.push (seqObj "list" acc.toList.toArray 0)).get? h'.objs.size = some (seqObj "list" acc.toList.toArray 0) := Heap.get?_push_size _ rfl
  have rd : ∀ b ∈ bs, Reads (h'.push (seqObj "list" acc.toList.toArray 0)) (.ref b.1) (pD b.2) [] := fun b hb => by
    obtain ⟨_, its, rv, o2, g2, c2, n2, d2⟩ := (show ObjOk X.prog X.w H s.heap b.1 (.tup [.str b.2.1, .str b.2.2]) from I.hok _ _ (e3 b hb))
    obtain ⟨t1, t2, rfl⟩ : ∃ t1 t2, its = [.str b.2.1 t1, .str b.2.2 t2] := by
      match its, rv with
      | _, .cons h1 (.cons h2 .nil) =>
        obtain ⟨t1, rfl⟩ := h1
        obtain ⟨t2, rfl⟩ := h2
        exact ⟨t1, t2, rfl⟩
    exact Reads.tuple (as := [] ++ ([] ++ [])) (Heap.get?_push_of_some _ (kp _ _ g2)) c2 d2 (.cons (.str _ _) (.cons (.str _ _) .nil))
  refine wpAny_bind (wpAny_holding ?_)
  refine PySem.W.list_sort_data (s := { s with heap := h'.push (seqObj "list" acc.toList.toArray 0), toks := tk }) (enc := fun b : PB => pD b.2) hoL each ?_ ?_ ?_ (by omega) (fun k _ => ?_) fun out hlen hout => ?_
  · have q := PySem.W.EachIs.of (R := fun (v : Value) (b : PB) => ∃ as, Reads (h'.push (seqObj "list" acc.toList.toArray 0)) v (pD b.2) as ∧ h'.objs.size ∉ as) (zs := bs.map fun b => (Value.ref b.1, b)) fun p hp => by
      obtain ⟨b, hb, rfl⟩ := List.mem_map.mp hp
      exact ⟨[], rd b hb, by simp⟩
    rw [List.map_map, List.map_map] at q
    rw [eb] at q ⊢
    simpa [Function.comp_def] using q
  · intro d hd e he
    obtain ⟨x, _, rfl⟩ := List.mem_map.mp hd
    obtain ⟨y, _, rfl⟩ := List.mem_map.mp he
    rfl
  · exact .inl fun d hd => by
      obtain ⟨x, _, rfl⟩ := List.mem_map.mp hd
      exact ⟨_, _, rfl⟩
  · have d0 : (pD k.2).depth ≤ 2 := by
      unfold pD
      simp [PyData.depth, PyData.depthAll]
    show X.A.units + 1 + 1 + _ < cLine
    omega
  · obtain ⟨c, hat⟩ := sortedHeap_at (vs := acc.toList) (out := out.toArray) hoL
    have rv := refs_back hout
    refine wpAny_pure ⟨_, rfl, ?_⟩
    have lb2 : ((bs.mergeSort (PySem.W.dataLe false fun b : PB => pD b.2)).map fun b => V.ref b.1).length ≤ sizeLine := by
      rw [List.length_map, List.length_mergeSort]
      omega
    refine ⟨.ref h'.objs.size, _, I.laid (t' := tk) (o := .lst ((bs.mergeSort (PySem.W.dataLe false fun b : PB => pD b.2)).map fun b => V.ref b.1)) (fun b u e => ?_) hp ⟨lb2, out, c, rv, hat⟩, rfl, q _ _ (I.hok.fresh hp) ?_⟩
    · have q := kp b u e
      have lt := Heap.lt_size q
      show (sortedHeap (h'.push (seqObj "list" acc.toList.toArray 0)) h'.objs.size acc.toList out.toArray).get? b = some u
      rw [sortedHeap_old (Nat.ne_of_lt lt) (by rw [size_push']; exact Nat.lt_succ_of_lt lt)]
      exact Heap.get?_push_of_some _ q
    · have em : (bs.mergeSort (PySem.W.dataLe false fun b : PB => pD b.2)).map Prod.snd = sortB pD ks := by
        unfold sortB
        rw [← e2]
        exact PySem.W.sort_maps (r := PySem.W.dataLe false fun b : PB => pD b.2) (s := PySem.W.dataLe false pD) Prod.snd (l := bs) (fun _ _ _ _ => rfl)
      rw [← em, List.map_map]
      refine Ims.of (by simp) fun i v d h1 h2 => ?_
      rw [List.getElem?_map] at h1 h2
      cases e : (bs.mergeSort (PySem.W.dataLe false fun b : PB => pD b.2))[i]? with
      | none =>
        rw [e] at h1
        cases h1
      | some b =>
        rw [e] at h1 h2
        cases h1
        cases h2
        have m : b ∈ bs := (List.mergeSort_perm _ _).mem_iff.mp (List.mem_of_getElem? e)
        exact .tup (e3 b m) (.cons (.str _) (.cons (.str _) .nil))
end Cry
/-! A web as its entries: pairs and beats. -/
namespace Cry
open PySem PySem.Spec PyProof.Rows L2
structure NamesOk (names : List Str) (m : Nat) : Prop where
  ok : ∀ x ∈ names, nameOkS x = true
  one : 1 ≤ names.length
  most : names.length ≤ m
  up : risingD (names.map PyData.str) = true
  nd : names.Nodup
  pw : names.Pairwise fun x y => ltS x y = true
abbrev Ents := List ((Str × Str) × Int)
def ents (es : Ents) : List (List Key × V) := es.map fun e => (pK e.1, V.int e.2)
def putE (es : Ents) (y : Str × Str) (n : Int) : Ents := if es.any (fun e => decide (e.1 = y)) = true then es.map (fun e => if e.1 = y then (e.1, n) else e) else es ++ [(y, n)]
theorem ents_any (es : Ents) (y : Str × Str) : ((ents es).any fun kv => decide (kv.1 = pK y)) = es.any fun e => decide (e.1 = y) := by
  unfold ents
  rw [List.any_map]
  congr 1
  funext e
  show decide (pK e.1 = pK y) = decide (e.1 = y)
  by_cases h : e.1 = y
  · rw [decide_eq_true h, decide_eq_true (congrArg pK h)]
  · rw [decide_eq_false h, decide_eq_false fun z => h (pK_inj z)]
theorem putE_ents (es : Ents) (y : Str × Str) (n : Int) : putK (ents es) (pK y) (.int n) = ents (putE es y n) := by
  unfold putK putE
  rw [ents_any]
  by_cases h : (es.any fun e => decide (e.1 = y)) = true
  · rw [if_pos h, if_pos h]
    unfold ents
    rw [List.map_map, List.map_map]
    refine List.map_congr_left fun e _ => ?_
    show (if pK e.1 = pK y then (pK e.1, V.int n) else (pK e.1, V.int e.2)) = _
    by_cases h2 : e.1 = y
    · rw [if_pos (congrArg pK h2)]
      show _ = ((fun e : (Str × Str) × Int => (pK e.1, V.int e.2)) (if e.1 = y then (e.1, n) else e))
      rw [if_pos h2]
    · rw [if_neg fun z => h2 (pK_inj z)]
      show _ = ((fun e : (Str × Str) × Int => (pK e.1, V.int e.2)) (if e.1 = y then (e.1, n) else e))
      rw [if_neg h2]
  · rw [if_neg h, if_neg h]
    unfold ents
    rw [List.map_append]
    rfl
theorem putE_len (es : Ents) (y : Str × Str) (n : Int) : (putE es y n).length ≤ es.length + 1 := by
  unfold putE
  split
  · rw [List.length_map]
    omega
  · rw [List.length_append]
    exact Nat.le_refl _
structure EntOk (names : List Str) (near : Bool) (es : Ents) : Prop where
  ok : ∀ e ∈ es, e.1.1 ∈ names ∧ e.1.2 ∈ names ∧ ltS e.1.1 e.1.2 = true ∧ 1 ≤ e.2 ∧ e.2 ≤ 1000000000000 ∧ (near = true → e.2 ≤ 9)
  nd : (es.map Prod.fst).Nodup
theorem EntOk.put {names : List Str} {near : Bool} {es : Ents} (h : EntOk names near es) {y : Str × Str} {n : Int} (h1 : y.1 ∈ names) (h2 : y.2 ∈ names) (h3 : ltS y.1 y.2 = true) (h4 : 1 ≤ n) (h5 : n ≤ 1000000000000) (h6 : near = true → n ≤ 9) : EntOk names near (putE es y n) := by
  unfold putE
  split
  · refine ⟨fun e he => ?_, ?_⟩
    · obtain ⟨e0, he0, rfl⟩ := List.mem_map.mp he
      have k := h.ok e0 he0
      split
      · exact ⟨k.1, k.2.1, k.2.2.1, h4, h5, h6⟩
      · exact k
    · have e : (es.map fun e => if e.1 = y then (e.1, n) else e).map Prod.fst = es.map Prod.fst := by
        rw [List.map_map]
        refine List.map_congr_left fun e _ => ?_
        show (if e.1 = y then (e.1, n) else e).1 = e.1
        split <;> rfl
      rw [e]
      exact h.nd
  · rename_i hn
    refine ⟨fun e he => ?_, ?_⟩
    · rcases List.mem_append.mp he with k | k
      · exact h.ok e k
      · rw [List.mem_singleton.mp k]
        exact ⟨h1, h2, h3, h4, h5, h6⟩
    · rw [List.map_append]
      refine List.nodup_append.mpr ⟨h.nd, by simp, fun a ha b hb => ?_⟩
      rintro rfl
      simp at hb
      obtain ⟨e, he, ee⟩ := List.mem_map.mp ha
      refine hn (List.any_eq_true.mpr ⟨e, he, decide_eq_true ?_⟩)
      rw [ee, hb]
def lookE (es : Ents) (y : Str × Str) : Int := ((es.find? fun e => decide (e.1 = y)).map Prod.snd).getD 0
theorem lookE_val {es : Ents} {y : Str × Str} (h : y ∈ es.map Prod.fst) : valV (ents es) (pK y) = some (.int (lookE es y)) ∧ (y, lookE es y) ∈ es := by
  induction es with
  | nil => cases h
  | cons e es ih =>
    unfold valV ents lookE at *
    rw [List.map_cons, List.find?_cons, List.find?_cons]
    by_cases h2 : e.1 = y
    · rw [show (decide (pK e.1 = pK y)) = true from decide_eq_true (congrArg pK h2), decide_eq_true h2]
      refine ⟨rfl, ?_⟩
      show (y, e.2) ∈ e :: es
      rw [← h2]
      exact List.mem_cons_self ..
    · rw [show (decide (pK e.1 = pK y)) = false from decide_eq_false fun z => h2 (pK_inj z), decide_eq_false h2]
      have hm : y ∈ es.map Prod.fst := by
        rcases List.mem_cons.mp h with k | k
        · exact absurd k.symm h2
        · exact k
      exact ⟨(ih hm).1, List.mem_cons_of_mem _ (ih hm).2⟩
/-- the ways of the pairs drawn, in their order -/
def waysE (es : Ents) : List Way := (sortB pD (es.map Prod.fst)).map fun p => (p.1, p.2, lookE es p)
/-- no two ways between the same two -/
def PairsNd (ways : List Way) : Prop := (ways.map fun y => (y.1, y.2.1)).Nodup
theorem waysE_nd {names : List Str} {near : Bool} {es : Ents} (h : EntOk names near es) : PairsNd (waysE es) := by
  unfold PairsNd waysE
  rw [List.map_map]
  have e : ((fun y : Way => (y.1, y.2.1)) ∘ fun p : Str × Str => ((p.1, p.2, lookE es p) : Way)) = id := rfl
  rw [e, List.map_id]
  exact (sortB_perm _ _).nodup_iff.mpr h.nd
theorem waysE_ok {names : List Str} {near : Bool} {es : Ents} {m : Nat} (N : NamesOk names m) (hm : m ≤ 60) (h : EntOk names near es) (hl : es.length ≤ 150) : WebOk names (waysE es) ∧ ∀ y ∈ waysE es, near = true → y.2.2 ≤ 9 := by
  have each : ∀ y ∈ waysE es, y.1 ∈ names ∧ y.2.1 ∈ names ∧ ltS y.1 y.2.1 = true ∧ 1 ≤ y.2.2 ∧ y.2.2 ≤ 1000000000000 ∧ (near = true → y.2.2 ≤ 9) := fun y hy => by
    obtain ⟨p, hp, rfl⟩ := List.mem_map.mp hy
    exact h.ok (p, lookE es p) (lookE_val ((sortB_perm _ _).mem_iff.mp hp)).2
  have inN : ∀ x ∈ names, inNames x names = true := fun x hx => by
    unfold inNames inV
    refine List.any_eq_true.mpr ⟨.str x, List.mem_map.mpr ⟨x, hx, rfl⟩, ?_⟩
    show decide (x = x) = true
    exact decide_eq_true rfl
  refine ⟨⟨N.ok, N.one, Nat.le_trans N.most hm, N.up, ?_, fun y hy => ?_, ?_⟩, fun y hy => (each y hy).2.2.2.2.2⟩
  · unfold waysE
    rw [List.length_map, (sortB_perm _ _).length_eq, List.length_map]
    exact hl
  · have k := each y hy
    exact ⟨N.ok _ k.1, N.ok _ k.2.1, k.2.2.2.1, k.2.2.2.2.1, inN _ k.1, inN _ k.2.1, k.2.2.1⟩
  · have e : (waysE es).map pairD = (sortB pD (es.map Prod.fst)).map pD := by
      unfold waysE
      rw [List.map_map]
      rfl
    rw [e]
    refine ord_pair.rise ((sortB_perm _ _).nodup_iff.mpr h.nd) ?_
    exact PySem.W.sort_pairwise (PySem.W.sortLe_total _ _ _) _
theorem u1 {n : Nat} (h : n + 64 < cLine) : n + 1 < cLine := by omega
end Cry
namespace Cry
open PySem PySem.Spec PyProof.Rows L2
/-! How long data's texts are; webs in every form. -/
structure Sm (B k : Nat) (d : PyData) : Prop where
  lay : d.canLay0 = true
  ish : d.intsShort 13 = true
  sh : d.showable = true
  wt : d.weight ≤ B
  dp : d.depth ≤ k
theorem Sm.shown {B k : Nat} {d : PyData} (h : Sm B k d) (hb : B ≤ 2 ^ 20) : d.shown.length ≤ sizeLine :=
  PyData.shown_fits (B := 13) (by decide) (by decide) (PyData.leavesShort_of_canLay0 13 d h.lay h.ish) (Nat.le_trans h.wt hb)
theorem Sm.mono {B C k : Nat} {d : PyData} (h : Sm B k d) (l : B ≤ C) : Sm C k d := ⟨h.lay, h.ish, h.sh, Nat.le_trans h.wt l, h.dp⟩
theorem Sm.deep {B j k : Nat} {d : PyData} (h : Sm B j d) (l : j ≤ k) : Sm B k d := ⟨h.lay, h.ish, h.sh, h.wt, Nat.le_trans h.dp l⟩
theorem Sm.str {x : Str} (h : nameOkS x = true) : Sm 8 0 (.str x) := by
  have h2 := h
  unfold nameOkS at h2
  rw [Bool.and_eq_true, Bool.and_eq_true, decide_eq_true_eq, decide_eq_true_eq] at h2
  exact ⟨name_strOk h, rfl, rfl, h2.1.2, Nat.le_refl _⟩
theorem Sm.int {n : Int} (h0 : 0 ≤ n) (h1 : n ≤ 1000000000000) : Sm 41 0 (.int n) := by
  have hl : n.natAbs.log2 < 40 := by
    by_cases z : n.natAbs = 0
    · rw [z]
      decide
    · exact (Nat.log2_lt z).mpr (by omega)
  refine ⟨rfl, ?_, ?_, ?_, Nat.le_refl _⟩
  · show decide ((PyData.shown (.int n)).length ≤ 13) = true
    by_cases e : n = 1000000000000
    · rw [e]
      decide +kernel
    · exact decide_eq_true (PyData.shown_int_le (by omega))
  · show decide (n.natAbs.log2 < 1920) = true
    exact decide_eq_true (by omega)
  · show (if n == 0 then 0 else n.natAbs.log2 + 1) ≤ 41
    split
    · exact Nat.zero_le _
    · omega
theorem Sm.all {B k : Nat} : ∀ {ds : List PyData}, (∀ e ∈ ds, Sm B k e) → PyData.canLayAll0 ds = true ∧ PyData.intsShortAll 13 ds = true ∧ PyData.showableAll ds = true ∧ PyData.weightAll ds ≤ ds.length * (B + 1) ∧ PyData.depthAll ds ≤ k
  | [], _ => ⟨rfl, rfl, rfl, Nat.zero_le _, Nat.zero_le _⟩
  | d :: ds, h => by
    have a := h d (List.mem_cons_self ..)
    obtain ⟨b1, b2, b3, b4, b5⟩ := Sm.all fun e he => h e (List.mem_cons_of_mem _ he)
    refine ⟨?_, ?_, ?_, ?_, ?_⟩
    · show (d.canLay0 && PyData.canLayAll0 ds) = true
      rw [a.lay, b1]
      rfl
    · show (d.intsShort 13 && PyData.intsShortAll 13 ds) = true
      rw [a.ish, b2]
      rfl
    · show (d.showable && PyData.showableAll ds) = true
      rw [a.sh, b3]
      rfl
    · show d.weight + 1 + PyData.weightAll ds ≤ (ds.length + 1) * (B + 1)
      have := a.wt
      rw [Nat.add_mul]
      omega
    · show max d.depth (PyData.depthAll ds) ≤ k
      exact Nat.max_le.mpr ⟨a.dp, b5⟩
theorem Sm.list {B C k : Nat} {ds : List PyData} (h : ∀ e ∈ ds, Sm B k e) (l : ds.length * (B + 1) ≤ C) : Sm C (k + 1) (.list ds) := by
  obtain ⟨b1, b2, b3, b4, b5⟩ := Sm.all h
  exact ⟨b1, b2, b3, Nat.le_trans b4 l, Nat.succ_le_succ b5⟩
theorem Sm.tuple {B C k : Nat} {ds : List PyData} (h : ∀ e ∈ ds, Sm B k e) (l : ds.length * (B + 1) ≤ C) : Sm C (k + 1) (.tuple ds) := by
  obtain ⟨b1, b2, b3, b4, b5⟩ := Sm.all h
  exact ⟨b1, b2, b3, Nat.le_trans b4 l, Nat.succ_le_succ b5⟩
mutual
theorem lay_nodict : ∀ d : PyData, d.canLay0 = true → d.hasDict = false
  | .none, _ => rfl
  | .bool _, _ => rfl
  | .int _, _ => rfl
  | .str _, _ => rfl
  | .list ds, h => lays_nodict ds h
  | .tuple ds, h => lays_nodict ds h
theorem lays_nodict : ∀ ds : List PyData, PyData.canLayAll0 ds = true → PyData.hasDictAll ds = false
  | [], _ => rfl
  | d :: ds, h => by
    have h2 : (d.canLay0 && PyData.canLayAll0 ds) = true := h
    rw [Bool.and_eq_true] at h2
    show (d.hasDict || PyData.hasDictAll ds) = false
    rw [lay_nodict d h2.1, lays_nodict ds h2.2]
    rfl
end
/-- a place or way of names, its number from 0 to 10 ** 12 -/
def TriOk (y : Way) : Prop := nameOkS y.1 = true ∧ nameOkS y.2.1 = true ∧ 0 ≤ y.2.2 ∧ y.2.2 ≤ 1000000000000
theorem Sm.tri {y : Way} (h : TriOk y) : ∀ e ∈ [PyData.str y.1, .str y.2.1, .int y.2.2], Sm 41 0 e := fun e he => by
  simp only [List.mem_cons, List.not_mem_nil, or_false] at he
  rcases he with rfl | rfl | rfl
  · exact (Sm.str h.1).mono (by decide)
  · exact (Sm.str h.2.1).mono (by decide)
  · exact Sm.int h.2.2.1 h.2.2.2
theorem Sm.way {y : Way} (h : TriOk y) : Sm 130 1 (wayD3 y) := Sm.tuple (Sm.tri h) (by show 3 * 42 ≤ 130; decide)
/-- a thing that stands for a web, by lists and tuples -/
structure WebForm (names : List Str) (ways : List Way) (d : PyData) : Prop where
  row : rowD d = true
  two : ∃ f ws, itemsD d = [f, ws] ∧ rowD f = true ∧ itemsD f = names.map PyData.str ∧ rowD ws = true ∧ (itemsD ws).length = ways.length ∧
    ∀ (i : Nat) (e : PyData) (y : Way), (itemsD ws)[i]? = some e → ways[i]? = some y → rowD e = true ∧ itemsD e = [.str y.1, .str y.2.1, .int y.2.2]
theorem wayOf_items {e : PyData} {y : Way} (h : itemsD e = [.str y.1, .str y.2.1, .int y.2.2]) : wayOf e = y := by
  unfold wayOf
  rw [h]
  rfl
theorem WebForm.web {names : List Str} {ways : List Way} {d : PyData} (h : WebForm names ways d) (wok : WebOk names ways) : webD d = true ∧ folkOf d = names ∧ waysOf d = ways := by
  obtain ⟨f, ws, e1, rf, ef, rw_, lw, each⟩ := h.two
  have en : namesD f = names := namesD_strs ef
  have eo : folkOf d = names := by
    unfold folkOf
    rw [e1]
    exact en
  have ew : waysOf d = ways := by
    unfold waysOf
    rw [e1]
    show (itemsD ws).map wayOf = ways
    apply List.ext_getElem?
    intro i
    rw [List.getElem?_map]
    cases e : (itemsD ws)[i]? with
    | none =>
      have := List.getElem?_eq_none_iff.mp e
      rw [List.getElem?_eq_none (by omega)]
      rfl
    | some x =>
      have lt : i < (itemsD ws).length := (List.getElem?_eq_some_iff.mp e).1
      obtain ⟨y, ey⟩ : ∃ y, ways[i]? = some y := ⟨_, List.getElem?_eq_getElem (by omega)⟩
      rw [ey]
      show some (wayOf x) = some y
      rw [wayOf_items (each i x y e ey).2]
  refine ⟨?_, eo, ew⟩
  have r2 : rowOfD 2 d = true := by
    unfold rowOfD
    rw [h.row, e1]
    rfl
  have hf : folkD f = true := by
    unfold folkD
    rw [rf, ef, List.length_map, decide_eq_true wok.one, decide_eq_true wok.most, wok.up, List.all_map]
    simp only [Bool.true_and, Bool.and_true]
    exact List.all_eq_true.mpr wok.ok
  have hw : waysD names ws = true := by
    unfold waysD
    rw [rw_, decide_eq_true (by rw [lw]; exact wok.few)]
    have a1 : (itemsD ws).all (wayD names) = true := by
      refine List.all_eq_true.mpr fun e he => ?_
      obtain ⟨i, hi⟩ := List.getElem?_of_mem he
      have lt : i < (itemsD ws).length := (List.getElem?_eq_some_iff.mp hi).1
      obtain ⟨y, ey⟩ : ∃ y, ways[i]? = some y := ⟨_, List.getElem?_eq_getElem (by omega)⟩
      obtain ⟨re, ie⟩ := each i e y hi ey
      obtain ⟨k1, k2, k3, k4, k5, k6, k7⟩ := wok.way y (List.mem_of_getElem? ey)
      unfold wayD rowOfD
      rw [re, ie]
      show (true && (nameOkS y.1 && nameOkS y.2.1 && (decide (1 ≤ y.2.2) && decide (y.2.2 ≤ 1000000000000)) && (inNames y.1 names && inNames y.2.1 names && ltS y.1 y.2.1))) = true
      rw [k1, k2, decide_eq_true k3, decide_eq_true k4, k5, k6, k7]
      rfl
    have a2 : (itemsD ws).map pairOf = ways.map pairD := by
      rw [← ew]
      unfold waysOf
      rw [e1]
      show _ = ((itemsD ws).map wayOf).map pairD
      rw [List.map_map]
      refine List.map_congr_left fun e he => ?_
      obtain ⟨i, hi⟩ := List.getElem?_of_mem he
      have lt : i < (itemsD ws).length := (List.getElem?_eq_some_iff.mp hi).1
      obtain ⟨y, ey⟩ : ∃ y, ways[i]? = some y := ⟨_, List.getElem?_eq_getElem (by omega)⟩
      obtain ⟨re, ie⟩ := each i e y hi ey
      show pairOf e = pairD (wayOf e)
      rw [wayOf_items ie]
      unfold pairOf
      rw [ie]
      rfl
    rw [a1, a2, wok.upw]
    rfl
  unfold webD
  rw [r2, e1]
  show (true && (folkD f && waysD (namesD f) ws)) = true
  rw [hf, en, hw]
  rfl
/-! ### a web that stands in the heap, in any form -/
def y3 (y : Way) : List V := [.str y.1, .str y.2.1, .int y.2.2]
def ItemAt (H : Hp) (v : V) (y : Way) : Prop := ∃ b, v = .ref b ∧ (H b = some (.lst (y3 y)) ∨ H b = some (.tup (y3 y)))
theorem name_short {x : Str} (h : nameOkS x = true) : x.length ≤ sizeLine := by
  unfold nameOkS at h
  rw [Bool.and_eq_true, Bool.and_eq_true, decide_eq_true_eq, decide_eq_true_eq] at h
  exact Nat.le_trans h.1.2 (by decide)
theorem y3_da {H : Hp} {y : Way} (t : TriOk y) : ∀ (i : Nat) (x : V) (e : PyData), (y3 y)[i]? = some x → [PyData.str y.1, .str y.2.1, .int y.2.2][i]? = some e → Da H x e
  | 0, _, _, h1, h2 => by
    cases h1
    cases h2
    exact .str _ (name_short t.1)
  | 1, _, _, h1, h2 => by
    cases h1
    cases h2
    exact .str _ (name_short t.2.1)
  | 2, _, _, h1, h2 => by
    cases h1
    cases h2
    exact .int _
  | _ + 3, _, _, h1, _ => by
    unfold y3 at h1
    simp at h1
theorem item_da {H : Hp} {v : V} {y : Way} (h : ItemAt H v y) (t : TriOk y) : ∃ e, Da H v e ∧ rowD e = true ∧ itemsD e = [.str y.1, .str y.2.1, .int y.2.2] ∧ Sm 130 1 e := by
  obtain ⟨b, rfl, h | h⟩ := h
  · exact ⟨.list [.str y.1, .str y.2.1, .int y.2.2], .lst h rfl (y3_da t), rfl, rfl, Sm.list (Sm.tri t) (by show 3 * 42 ≤ 130; decide)⟩
  · exact ⟨.tuple [.str y.1, .str y.2.1, .int y.2.2], .tup h rfl (y3_da t), rfl, rfl, Sm.tuple (Sm.tri t) (by show 3 * 42 ≤ 130; decide)⟩
def ItemsAt (H : Hp) (ws : List V) (ways : List Way) : Prop := ws.length = ways.length ∧ ∀ (i : Nat) (v : V) (y : Way), ws[i]? = some v → ways[i]? = some y → ItemAt H v y
theorem items_da {H : Hp} : ∀ {ws : List V} {ways : List Way}, ItemsAt H ws ways → (∀ y ∈ ways, TriOk y) → ∃ es : List PyData, es.length = ways.length ∧ (∀ (i : Nat) (v : V) (e : PyData), ws[i]? = some v → es[i]? = some e → Da H v e) ∧
    (∀ e ∈ es, Sm 130 1 e) ∧ ∀ (i : Nat) (e : PyData) (y : Way), es[i]? = some e → ways[i]? = some y → rowD e = true ∧ itemsD e = [.str y.1, .str y.2.1, .int y.2.2]
  | [], [], _, _ => ⟨[], rfl, fun i v e h => by simp at h, fun e h => by simp at h, fun i e y h => by simp at h⟩
  | v :: ws, y :: ways, h, t => by
    obtain ⟨es, l, h1, h2, h3⟩ := items_da (ws := ws) (ways := ways) ⟨Nat.succ.inj h.1, fun i v' y' e1 e2 => h.2 (i + 1) v' y' (by simpa using e1) (by simpa using e2)⟩ fun z hz => t z (List.mem_cons_of_mem _ hz)
    obtain ⟨e, d1, d2, d3, d4⟩ := item_da (h.2 0 v y rfl rfl) (t y (List.mem_cons_self ..))
    refine ⟨e :: es, congrArg (· + 1) l, fun i v' e' k1 k2 => ?_, fun e' he => ?_, fun i e' y' k1 k2 => ?_⟩
    · cases i with
      | zero =>
        cases k1
        cases k2
        exact d1
      | succ i => exact h1 i v' e' (by simpa using k1) (by simpa using k2)
    · rcases List.mem_cons.mp he with rfl | he
      · exact d4
      · exact h2 e' he
    · cases i with
      | zero =>
        cases k1
        cases k2
        exact ⟨d2, d3⟩
      | succ i => exact h3 i e' y' (by simpa using k1) (by simpa using k2)
  | [], _ :: _, h, _ => by cases h.1
  | _ :: _, [], h, _ => by cases h.1
def RowAt (H : Hp) (a : Addr) (xs : List V) : Prop := H a = some (.lst xs) ∨ H a = some (.tup xs)
theorem row_da {H : Hp} {a : Addr} {xs : List V} {ds : List PyData} {B k C : Nat} (h : RowAt H a xs) (l : xs.length = ds.length) (e : ∀ (i : Nat) (x : V) (e : PyData), xs[i]? = some x → ds[i]? = some e → Da H x e) (sm : ∀ e ∈ ds, Sm B k e) (c : ds.length * (B + 1) ≤ C) :
    ∃ d, Da H (.ref a) d ∧ rowD d = true ∧ itemsD d = ds ∧ Sm C (k + 1) d := by
  rcases h with h | h
  · exact ⟨.list ds, .lst h l e, rfl, rfl, Sm.list sm c⟩
  · exact ⟨.tuple ds, .tup h l e, rfl, rfl, Sm.tuple sm c⟩
theorem web_da {H : Hp} {p F W : Addr} {names : List Str} {ways : List Way} {ws : List V} (hp : RowAt H p [.ref F, .ref W]) (hF : RowAt H F (names.map V.str)) (hW : RowAt H W ws) (hi : ItemsAt H ws ways) (wok : WebOk names ways) :
    ∃ d, Da H (.ref p) d ∧ WebForm names ways d ∧ Sm 50000 3 d := by
  have tri : ∀ y ∈ ways, TriOk y := fun y hy => by
    obtain ⟨k1, k2, k3, k4, _⟩ := wok.way y hy
    exact ⟨k1, k2, by omega, k4⟩
  obtain ⟨es, l, h1, h2, h3⟩ := items_da hi tri
  have few := wok.few
  obtain ⟨dw, a1, a2, a3, a4⟩ := row_da (C := 20000) hW (by rw [hi.1, l]) h1 h2 (by rw [l]; omega)
  have nd : ∀ (i : Nat) (x : V) (e : PyData), (names.map V.str)[i]? = some x → (names.map PyData.str)[i]? = some e → Da H x e := fun i x e k1 k2 => by
    rw [List.getElem?_map] at k1 k2
    cases e0 : names[i]? with
    | none =>
      rw [e0] at k1
      cases k1
    | some z =>
      rw [e0] at k1 k2
      cases k1
      cases k2
      exact .str _ (name_short (wok.ok z (List.mem_of_getElem? e0)))
  have most := wok.most
  obtain ⟨df, b1, b2, b3, b4⟩ := row_da (C := 20000) (B := 8) (k := 0) hF (by rw [List.length_map, List.length_map]) nd (fun e he => by
    obtain ⟨z, hz, rfl⟩ := List.mem_map.mp he
    exact Sm.str (wok.ok z hz)) (by rw [List.length_map]; omega)
  obtain ⟨d, c1, c2, c3, c4⟩ := row_da (C := 50000) (ds := [df, dw]) (B := 20000) (k := 2) hp rfl (fun i x e k1 k2 => by
    match i, k1, k2 with
    | 0, k1, k2 =>
      cases k1
      cases k2
      exact b1
    | 1, k1, k2 =>
      cases k1
      cases k2
      exact a1
    | _ + 2, k1, _ => simp at k1) (fun e he => by
    simp only [List.mem_cons, List.not_mem_nil, or_false] at he
    rcases he with rfl | rfl
    · exact b4.deep (by decide)
    · exact a4) (by show 2 * 20001 ≤ 50000; decide)
  exact ⟨d, c1, ⟨c2, df, dw, c3, b2, b3, a2, by rw [a3]; exact l, fun i e y k1 k2 => h3 i e y (by rw [← a3]; exact k1) k2⟩, c4⟩
end Cry
namespace Cry
open PySem PySem.Spec PyProof.Rows L2
/-! min() and max() of two texts. -/
section
variable {prog : Program} {w : World} {A : Around} {E : Value → Shared → Prop} {s : Shared}
theorem strs_gt {IP : Nat → Value → Prop} (val : Nat → Str) (hval : ∀ i v, IP i v → ∃ t, v = .str (val i) t) : CmpOf prog w A .Gt IP fun i j => decide ((val j).cps.toList < (val i).cps.toList) := fun i j vi vj s Q E hi hj h => by
  obtain ⟨t, rfl⟩ := hval i vi hi
  obtain ⟨u, rfl⟩ := hval j vj hj
  exact richCompare_gives (op := .Gt) (typeIs_str s _ t) (typeIs_str s _ u) F.slot_str_gt F.entry_str_gt (F.args_str_gt_2 _ _) (gives_str_gt _ _ t u) (fun x => nomatch x) h
theorem strs_lt {IP : Nat → Value → Prop} (val : Nat → Str) (hval : ∀ i v, IP i v → ∃ t, v = .str (val i) t) : CmpOf prog w A .Lt IP fun i j => decide ((val i).cps.toList < (val j).cps.toList) := fun i j vi vj s Q E hi hj h => by
  obtain ⟨t, rfl⟩ := hval i vi hi
  obtain ⟨u, rfl⟩ := hval j vj hj
  exact richCompare_gives (op := .Lt) (typeIs_str s _ t) (typeIs_str s _ u) F.slot_str_lt F.entry_str_lt (F.args_str_lt_2 _ _) (gives_str_lt _ _ t u) (fun x => nomatch x) h
def twoS (x y : Str) (i : Nat) : Str := if i = 0 then x else y
theorem twoS_val {x y : Str} {t u : Tok} (i : Nat) (v : Value) (h : (#[Value.str x t, Value.str y u])[i]? = some v) : ∃ t, v = .str (twoS x y i) t := by
  match i, h with
  | 0, h =>
    cases h
    exact ⟨t, rfl⟩
  | 1, h =>
    cases h
    exact ⟨u, rfl⟩
  | _ + 2, h => simp at h
theorem max_two_str {x y : Str} {t u : Tok} {Q : Value → Shared → Prop} (hh : A.handled = none)
    (h : ∀ h' tk, (∀ c o, s.heap.get? c = some o → h'.get? c = some o) → Q (if x.cps.toList < y.cps.toList then .str y u else .str x t) { s with heap := h', toks := tk }) :
    wpAny (model prog w) A (call (.builtin "max") [.str x t, .str y u]) Q E s := by
  have hT : (s.heap.push { cls := .type "tuple", data := .seq #[.str x t, .str y u] }).IsTuple s.heap.objs.size #[.str x t, .str y u] := ⟨_, Heap.get?_push_size _ rfl, rfl, 0, rfl⟩
  refine call_max_two (wpAny_pyIter_tuple hT ?_)
  have hsz : (s.heap.push { cls := .type "tuple", data := .seq #[.str x t, .str y u] }).objs.size = s.heap.objs.size + 1 := Heap.size_push ..
  refine ⟨_, [_, s.heap.objs.size], [_], _, _, _, _, rfl, Walks.tuple (A := A.in1) hh _ s.heap.objs.size (by rw [hsz]; exact Nat.ne_of_lt (Nat.lt_succ_self _)) #[.str x t, .str y u],
    ⟨⟨_, Heap.get?_push_size _ rfl, rfl, rfl⟩, hT.push _⟩, fun c hc => ?_, by simp, strs_gt (twoS x y) twoS_val, fun v h' tk hP hk => ?_⟩
  · show c < ((s.heap.push _).push _).objs.size
    rw [Heap.size_push, hsz]
    rcases List.mem_cons.mp hc with rfl | hc
    · rw [hsz]; exact Nat.lt_succ_self _
    · rcases List.mem_cons.mp hc with rfl | hc
      · exact Nat.lt_succ_of_lt (Nat.lt_succ_self _)
      · cases hc
  · refine (?_ : v = if x.cps.toList < y.cps.toList then Value.str y u else Value.str x t) ▸ h h' tk fun c o e => ?_
    · have hP' : (#[Value.str x t, Value.str y u] : Array Value)[argBest (fun i j => decide ((twoS x y j).cps.toList < (twoS x y i).cps.toList)) 1]? = some v := hP
      by_cases hc : x.cps.toList < y.cps.toList
      · rw [show argBest (fun i j => decide ((twoS x y j).cps.toList < (twoS x y i).cps.toList)) 1 = 1 from if_pos (decide_eq_true hc)] at hP'
        rw [if_pos hc]
        exact (Option.some.inj hP').symm
      · rw [show argBest (fun i j => decide ((twoS x y j).cps.toList < (twoS x y i).cps.toList)) 1 = 0 from if_neg fun z => hc (of_decide_eq_true z)] at hP'
        rw [if_neg hc]
        exact (Option.some.inj hP').symm
    · refine hk c o (fun hm => ?_) (Heap.get?_push_of_some _ (Heap.get?_push_of_some _ e))
      rcases List.mem_cons.mp hm with e1 | hm
      · have := Heap.lt_size e; rw [e1, hsz] at this; exact Nat.lt_irrefl _ (Nat.lt_of_succ_lt this)
      · cases hm
theorem min_two_str {x y : Str} {t u : Tok} {Q : Value → Shared → Prop} (hh : A.handled = none)
    (h : ∀ h' tk, (∀ c o, s.heap.get? c = some o → h'.get? c = some o) → Q (if y.cps.toList < x.cps.toList then .str y u else .str x t) { s with heap := h', toks := tk }) :
    wpAny (model prog w) A (call (.builtin "min") [.str x t, .str y u]) Q E s := by
  have hT : (s.heap.push { cls := .type "tuple", data := .seq #[.str x t, .str y u] }).IsTuple s.heap.objs.size #[.str x t, .str y u] := ⟨_, Heap.get?_push_size _ rfl, rfl, 0, rfl⟩
  refine call_min_two (wpAny_pyIter_tuple hT ?_)
  have hsz : (s.heap.push { cls := .type "tuple", data := .seq #[.str x t, .str y u] }).objs.size = s.heap.objs.size + 1 := Heap.size_push ..
  refine ⟨_, [_, s.heap.objs.size], [_], _, _, _, _, rfl, Walks.tuple (A := A.in1) hh _ s.heap.objs.size (by rw [hsz]; exact Nat.ne_of_lt (Nat.lt_succ_self _)) #[.str x t, .str y u],
    ⟨⟨_, Heap.get?_push_size _ rfl, rfl, rfl⟩, hT.push _⟩, fun c hc => ?_, by simp, strs_lt (twoS x y) twoS_val, fun v h' tk hP hk => ?_⟩
  · show c < ((s.heap.push _).push _).objs.size
    rw [Heap.size_push, hsz]
    rcases List.mem_cons.mp hc with rfl | hc
    · rw [hsz]; exact Nat.lt_succ_self _
    · rcases List.mem_cons.mp hc with rfl | hc
      · exact Nat.lt_succ_of_lt (Nat.lt_succ_self _)
      · cases hc
  · refine (?_ : v = if y.cps.toList < x.cps.toList then Value.str y u else Value.str x t) ▸ h h' tk fun c o e => ?_
    · have hP' : (#[Value.str x t, Value.str y u] : Array Value)[argBest (fun i j => decide ((twoS x y i).cps.toList < (twoS x y j).cps.toList)) 1]? = some v := hP
      by_cases hc : y.cps.toList < x.cps.toList
      · rw [show argBest (fun i j => decide ((twoS x y i).cps.toList < (twoS x y j).cps.toList)) 1 = 1 from if_pos (decide_eq_true hc)] at hP'
        rw [if_pos hc]
        exact (Option.some.inj hP').symm
      · rw [show argBest (fun i j => decide ((twoS x y i).cps.toList < (twoS x y j).cps.toList)) 1 = 0 from if_neg fun z => hc (of_decide_eq_true z)] at hP'
        rw [if_neg hc]
        exact (Option.some.inj hP').symm
    · refine hk c o (fun hm => ?_) (Heap.get?_push_of_some _ (Heap.get?_push_of_some _ e))
      rcases List.mem_cons.mp hm with e1 | hm
      · have := Heap.lt_size e; rw [e1, hsz] at this; exact Nat.lt_irrefl _ (Nat.lt_of_succ_lt this)
      · cases hm
end
def maxS (x y : Str) : Str := if x.cps.toList < y.cps.toList then y else x
def minS (x y : Str) : Str := if y.cps.toList < x.cps.toList then y else x
abbrev rTwoS (f : Str → Str → Str) : List V → Hp → VK → Prop := fun xs H Q => ∃ x y, xs = [.str x, .str y] ∧ Q (.str (f x y)) H
theorem cr_maxS {X : Cx} (hc : X.calm = true) : CallR X (.builtin "max") (rTwoS maxS) := by
  intro pins s σ H xs us Q I r h
  obtain ⟨i, j, rfl, q⟩ := h
  obtain ⟨u, w', rfl, ⟨t, rfl⟩, ⟨t', rfl⟩⟩ := vals2 r
  refine max_two_str (I.ok.hd hc) fun h' tk k => ⟨_, H, I.kept k, ?_, q⟩
  unfold maxS
  by_cases hj : i.cps.toList < j.cps.toList
  · rw [if_pos hj, if_pos hj]; exact ⟨_, rfl⟩
  · rw [if_neg hj, if_neg hj]; exact ⟨_, rfl⟩
theorem cr_minS {X : Cx} (hc : X.calm = true) : CallR X (.builtin "min") (rTwoS minS) := by
  intro pins s σ H xs us Q I r h
  obtain ⟨i, j, rfl, q⟩ := h
  obtain ⟨u, w', rfl, ⟨t, rfl⟩, ⟨t', rfl⟩⟩ := vals2 r
  refine min_two_str (I.ok.hd hc) fun h' tk k => ⟨_, H, I.kept k, ?_, q⟩
  unfold minS
  by_cases hj : j.cps.toList < i.cps.toList
  · rw [if_pos hj, if_pos hj]; exact ⟨_, rfl⟩
  · rw [if_neg hj, if_neg hj]; exact ⟨_, rfl⟩
end Cry
/-! Comprehensions with a test over a heap that only grows; next ones of a row. -/
namespace Cry
open PySem PySem.Spec PyProof.Rows L2
section
variable {J : It} {n : Nat} {G : Hp → Prop} {Y : Nat → Hp → V → Hp → Prop}
/-- plain values f i of those i that pass the test p -/
theorem lc_sift (w : Walk J n G Y) {g : TG} {tt : TT} {te : TE} {vs : List Nat} {σ : Slots} {H1 : Hp} {D : Addr} {Qd : Hp → Prop} (p : Nat → Bool) (f : Nat → V) (hn : n ≤ sizeLine) (nD : H1 D = none)
    (hG : ∀ H, Same H1 H → G H) (hY : ∀ i H x H', Y i H x H' → Same H H')
    (hs : ∀ i x H H' (Z : VK) (N : Hp → Prop), i < n → Same H1 H → Y i H x H' → (p i = true → ∀ H4, Same H' H4 → Z (f i) H4) → (p i = false → ∀ H4, Same H' H4 → N H4) → g x (wipe σ vs) H' fun σ2 H2 => wipe σ2 vs = wipe σ vs ∧ tt σ2 H2 fun b H3 => if b = true then te σ2 H3 Z else N H3)
    (hd : ∀ H, Same H1 H → H D = some (.lst (((List.range n).filter p).map f)) → Qd H) :
    ∃ W : Nat → Nat → Hp → Prop, (∃ m, W 0 m (upd H1 D (.lst []))) ∧ ∀ i m H, W i m H →
      (J.stop i H ∧ Qd H) ∨ (J.go i H ∧ ∃ Nx : Hp → Prop, (∀ H', Nx H' → ∃ m', m' < m ∧ W (i + 1) m' H') ∧ ∀ x H', J.yld i H x H' → g x (wipe σ vs) H' fun σ2 H2 => wipe σ2 vs = wipe σ vs ∧ tt σ2 H2 fun b H3 =>
        if b = true then te σ2 H3 fun y H4 => ∃ acc, H4 D = some (.lst acc) ∧ acc.length < sizeLine ∧ Nx (upd H4 D (.lst (acc ++ [y]))) else Nx H3) := by
  refine lc_it w (fun i H => Same H1 H ∧ H D = some (.lst (((List.range i).filter p).map f))) ⟨same_new nD, upd_same⟩ (fun i H _ gd => hG H gd.1) (fun i x H H' hi gd hy => ?_) fun H gd => hd H gd.1 gd.2
  have s1 := hY i H x H' hy
  refine hs i x H H' _ _ hi gd.1 hy (fun pi H4 s2 => ?_) fun pi H4 s2 => ?_
  · refine ⟨_, s2 _ _ (s1 _ _ gd.2), ?_, same_at ((gd.1.trans s1).trans s2) nD, ?_⟩
    · have h1 : ((List.range i).filter p).length ≤ (List.range i).length := List.length_filter_le _ _
      rw [List.length_map]
      rw [List.length_range] at h1
      omega
    · rw [upd_same, List.range_succ, List.filter_append, List.map_append]
      rw [show [i].filter p = [i] from by simp [pi]]
      rfl
  · refine ⟨(gd.1.trans s1).trans s2, ?_⟩
    rw [List.range_succ, List.filter_append, show [i].filter p = [] from by simp [pi], List.append_nil]
    exact s2 _ _ (s1 _ _ gd.2)
end
theorem filter_range_map {α β : Type} (xs : List α) (p : α → Bool) (f : α → β) (d : α) : (((List.range xs.length).filter fun i => p ((xs[i]?).getD d)).map fun i => f ((xs[i]?).getD d)) = (xs.filter p).map f := by
  have e : xs = (List.range xs.length).map fun i => (xs[i]?).getD d := by
    have := map_range_get xs id d
    simpa using this.symm
  conv => rhs; rw [e]
  rw [List.filter_map, List.map_map]
  rfl
/-- of each two next ones -/
def nexts {α β : Type} (g : α → α → β) : List α → List β
  | x :: y :: r => g x y :: nexts g (y :: r)
  | _ => []
theorem nexts_range {α β : Type} (g : α → α → β) (d : α) : ∀ (xs : List α) (f : Nat → β), (∀ (i : Nat) x y, xs[i]? = some x → xs[i + 1]? = some y → f i = g x y) → (List.range (xs.length - 1)).map f = nexts g xs
  | [], _, _ => rfl
  | [_], _, _ => rfl
  | x :: y :: r, f, h => by
    have ih := nexts_range g d (y :: r) (fun i => f (i + 1)) fun i a b h1 h2 => h (i + 1) a b (by simpa using h1) (by simpa using h2)
    have e1 : (x :: y :: r).length - 1 = (y :: r).length - 1 + 1 := by simp
    rw [e1, List.range_succ_eq_map, List.map_cons, List.map_map]
    show f 0 :: _ = g x y :: nexts g (y :: r)
    rw [← ih, h 0 x y rfl rfl]
    rfl
theorem nexts_len {α β : Type} (g : α → α → β) : ∀ xs : List α, (nexts g xs).length = xs.length - 1
  | [] => rfl
  | [_] => rfl
  | x :: y :: r => by
    show (nexts g (y :: r)).length + 1 = _
    rw [nexts_len g (y :: r)]
    simp
theorem atI_end {α : Type} {xs : List α} (h : xs ≠ []) : atI xs (-1) = some (xs.getLast h) := by
  have := atI_last xs.dropLast (xs.getLast h)
  rw [List.dropLast_concat_getLast] at this
  exact this
section
variable {K : PySem.W.Frag}
/-- zip(xs, xs[1:]), xs a list, or a tuple that holds something -/
theorem zip_tail {σ : Slots} {H : Hp} {R : It → Hp → Prop} {i : Nat} {a : Addr} {xs : List V} (hv : σ[i]? = some (some (.ref a))) (hs : SqL K H a xs ∨ (SqT K H a xs ∧ xs ≠ []))
    (h : ∀ J H1, Same H H1 → Walk J (xs.length - 1) (fun H2 => Same H1 H2) (YPair (fun i => xs[i]?) (fun i => xs[i + 1]?)) → R J H1) :
    RZ.iZipA K (tCons (tVar i) (tCons (tSl (fun x lo hi H Q => rSlL K x lo hi H Q ∨ rSlT K x lo hi H Q) (tVar i) (tPart (tC (.int 1))) tNoPart) tNil)) σ H R := by
  have ey : (fun i => (xs.drop 1)[i]?) = fun i => xs[i + 1]? := by
    funext i
    rw [List.getElem?_drop, Nat.add_comm 1 i]
  rcases hs with hs | ⟨hs, ne⟩
  · refine ⟨_, hv, _, hv, 1, rfl, .inl ⟨a, xs, rfl, hs, fun p np => ?_⟩⟩
    rw [cut_tail]
    have s1 : Same H (upd H p (.lst (xs.drop 1))) := same_new np
    refine ⟨a, p, xs, xs.drop 1, rfl, .inl ⟨s1.seq hs, SqL.of upd_same, h _ _ s1 ?_⟩⟩
    rw [← ey]
    exact (walk_zip (xs := xs) (ys := xs.drop 1) (by simp)).mono (fun H2 s2 => ⟨s2.seq (s1.seq hs), s2.seq (SqL.of upd_same)⟩) fun _ _ _ _ _ _ y => y
  · refine ⟨_, hv, _, hv, 1, rfl, .inr ⟨a, xs, rfl, hs, ?_, fun p np => ?_⟩⟩
    · intro z
      have := z.1
      rw [show HT.sIx xs.length 0 (some 1) = min 1 xs.length from HT.sIx_nat xs.length 0 1] at this
      cases xs with
      | nil => exact ne rfl
      | cons x r =>
        rw [List.length_cons] at this
        omega
    · rw [cut_tail]
      have s1 : Same H (upd H p (.tup (xs.drop 1))) := same_new np
      refine ⟨a, p, xs, xs.drop 1, rfl, .inr ⟨sqT_same s1 hs, SqT.of upd_same, h _ _ s1 ?_⟩⟩
      rw [← ey]
      exact (walk_zipT (xs := xs) (ys := xs.drop 1) (by simp)).mono (fun H2 s2 => ⟨sqT_same s2 (sqT_same s1 hs), sqT_same s2 (SqT.of upd_same)⟩) fun _ _ _ _ _ _ y => y
end
end Cry
/-! Facts: beats between two, data that can be asked whether they are alike. -/
namespace Cry
open PySem PySem.Spec PyProof.Rows L2
theorem pairs_one {ways : List Way} (nd : PairsNd ways) {y z : Way} (hy : y ∈ ways) (hz : z ∈ ways) (h1 : y.1 = z.1) (h2 : y.2.1 = z.2.1) : y = z := by
  induction ways with
  | nil => cases hy
  | cons x ways ih =>
    unfold PairsNd at nd
    rw [List.map_cons, List.nodup_cons] at nd
    rcases List.mem_cons.mp hy with rfl | hy2
    · rcases List.mem_cons.mp hz with rfl | hz2
      · rfl
      · exact absurd (List.mem_map.mpr ⟨z, hz2, (Prod.ext h1 h2 : (y.1, y.2.1) = (z.1, z.2.1)).symm⟩) nd.1
    · rcases List.mem_cons.mp hz with rfl | hz2
      · exact absurd (List.mem_map.mpr ⟨y, hy2, (Prod.ext h1 h2 : (y.1, y.2.1) = (z.1, z.2.1))⟩) nd.1
      · exact ih nd.2 hy2 hz2
theorem between_of {ways : List Way} (pn : PairsNd ways) {y : Way} (hy : y ∈ ways) : between ways y.1 y.2.1 = y.2.2 := by
  unfold between
  cases e : ways.find? fun z => decide (z.1 = y.1) && decide (z.2.1 = y.2.1) with
  | none =>
    rw [List.find?_eq_none] at e
    have := e y hy
    simp at this
  | some z =>
    have h1 := List.find?_some e
    have h2 := List.mem_of_find?_eq_some e
    rw [Bool.and_eq_true, decide_eq_true_eq, decide_eq_true_eq] at h1
    rw [pairs_one pn h2 hy h1.1 h1.2]
    rfl
theorem Sm.shaped {B k : Nat} {d : PyData} (h : Sm B k d) (hk : k ≤ 64) : SeqAt.shaped d = true := by
  unfold SeqAt.shaped
  rw [h.lay, decide_eq_true (Nat.le_trans h.dp hk)]
  rfl
theorem list_dp {K : PySem.W.Frag} {H : Hp} {l : Addr} {vs : List V} {ds : List PyData} (hl : H l = some (.lst vs)) (im : Ims H vs ds) : Dp K H (.ref l) (.list ds) := .lst (SqL.of hl) im.dp
mutual
theorem eqv_self : ∀ d : PyData, d.canLay0 = true → PyData.eqv d d = true
  | .none, _ => rfl
  | .bool b, _ => by cases b <;> rfl
  | .int i, _ => by
    show (i == i) = true
    simp
  | .str x, _ => by
    rw [eqv_str]
    exact decide_eq_true rfl
  | .list ds, h => eqvs_self ds h
  | .tuple ds, h => eqvs_self ds h
theorem eqvs_self : ∀ ds : List PyData, PyData.canLayAll0 ds = true → PyData.eqvAll ds ds = true
  | [], _ => rfl
  | d :: ds, h => by
    have h2 : (d.canLay0 && PyData.canLayAll0 ds) = true := h
    rw [Bool.and_eq_true] at h2
    show (PyData.eqv d d && PyData.eqvAll ds ds) = true
    rw [eqv_self d h2.1, eqvs_self ds h2.2]
    rfl
end
end Cry
/-! Data in which a dict may stand, an empty one: its repr. -/
namespace Cry
open PySem PySem.Spec PyProof.Rows L2
/-- what a value stands for, in the machine's heap; dicts are empty -/
inductive RdZ (h : Heap) : Value → PyData → Prop
  | non : RdZ h .none .none
  | bl (b : Bool) : RdZ h (.bool b) (.bool b)
  | int (i : Int) (t : Tok) : RdZ h (.int i t) (.int i)
  | str (x : Str) (t : Tok) : RdZ h (.str x t) (.str x)
  | lst {a : Addr} {o : Obj} {us : Array Value} {n : Nat} {ds : List PyData} (ho : h.get? a = some o) (hc : o.cls = .type "list") (hd : o.data = .seq us n) (hl : us.toList.length = ds.length)
      (hi : ∀ (i : Nat) (u : Value) (d : PyData), us.toList[i]? = some u → ds[i]? = some d → RdZ h u d) : RdZ h (.ref a) (.list ds)
  | tup {a : Addr} {o : Obj} {us : Array Value} {n : Nat} {ds : List PyData} (ho : h.get? a = some o) (hc : o.cls = .type "tuple") (hd : o.data = .seq us n) (hl : us.toList.length = ds.length)
      (hi : ∀ (i : Nat) (u : Value) (d : PyData), us.toList[i]? = some u → ds[i]? = some d → RdZ h u d) : RdZ h (.ref a) (.tuple ds)
  | dic {a : Addr} {o : Obj} {es : Array DictEntry} {n : Nat} (ho : h.get? a = some o) (hc : o.cls = .type "dict") (hd : o.data = .dict es n) (he : es.toList = []) (hs : (a == sysModules) = false) : RdZ h (.ref a) (.dict [])
theorem readsAll_each {h : Heap} : ∀ {us : List Value} {ds : List PyData}, us.length = ds.length → (∀ (i : Nat) (u : Value) (d : PyData), us[i]? = some u → ds[i]? = some d → ∃ as, Reads h u d as) → ∃ as, ReadsAll h us ds as
  | [], [], _, _ => ⟨_, .nil⟩
  | u :: us, d :: ds, hl, hi => by
    obtain ⟨as, r1⟩ := hi 0 u d rfl rfl
    obtain ⟨bs, r2⟩ := readsAll_each (us := us) (ds := ds) (by simpa using hl) fun i u' d' h1 h2 => hi (i + 1) u' d' (by simpa using h1) (by simpa using h2)
    exact ⟨_, .cons r1 r2⟩
theorem RdZ.reads {h : Heap} {v : Value} {d : PyData} (r : RdZ h v d) : ∃ as, Reads h v d as := by
  induction r with
  | non => exact ⟨_, .none⟩
  | bl b => exact ⟨_, .bool b⟩
  | int i t => exact ⟨_, .int i t⟩
  | str x t => exact ⟨_, .str x t⟩
  | lst ho hc hd hl _ ih =>
    obtain ⟨as, ra⟩ := readsAll_each hl ih
    exact ⟨_, .list ho hc hd ra⟩
  | tup ho hc hd hl _ ih =>
    obtain ⟨as, ra⟩ := readsAll_each hl ih
    exact ⟨_, .tuple ho hc hd ra⟩
  | dic ho hc hd he hs =>
    refine ⟨_, .dict (as := []) (bs := []) ho hc hd ?_ ?_⟩
    · rw [he]
      exact .nil
    · rw [he]
      exact .nil
/-- the texts of the items -/
def ShowsZ (P : Program) (w : World) (h : Heap) (u : Value) (d : PyData) : Prop := d.showable = true → d.shown.length ≤ sizeLine → ∃ bs, ReadAtMost h d.depth bs ∧ ReprK P w bs h d.depth u d.shown
theorem showsAll_each {P : Program} {w : World} {h : Heap} : ∀ {us : List Value} {ds : List PyData}, us.length = ds.length → (∀ (i : Nat) (u : Value) (d : PyData), us[i]? = some u → ds[i]? = some d → ShowsZ P w h u d) →
    PyData.showableAll ds = true → (∀ t ∈ PyData.shownAll ds, t.length ≤ sizeLine) → ∃ bs, ReadAtMost h (PyData.depthAll ds) bs ∧ ReprAllK P w bs h (PyData.depthAll ds) us (PyData.shownAll ds)
  | [], [], _, _, _, _ => ⟨[], fun b hb => absurd hb (by simp), by simp only [PyData.shownAll]; exact .nil⟩
  | u :: us, d :: ds, hl, hi, hs, hz => by
    simp only [PyData.showableAll, Bool.and_eq_true] at hs
    simp only [PyData.shownAll, List.mem_cons] at hz
    obtain ⟨b1, p1, k1⟩ := hi 0 u d rfl rfl hs.1 (hz _ (.inl rfl))
    obtain ⟨b2, p2, k2⟩ := showsAll_each (us := us) (ds := ds) (by simpa using hl) (fun i u' d' h1 h2 => hi (i + 1) u' d' (by simpa using h1) (by simpa using h2)) hs.2 fun t ht => hz t (.inr ht)
    simp only [PyData.depthAll, PyData.shownAll]
    refine ⟨b1 ++ b2, (p1.mono (Nat.le_max_left _ _)).append (p2.mono (Nat.le_max_right _ _)), ?_⟩
    exact .cons ((k1.more fun b hb => List.mem_append.mpr (.inl hb)).level_le (Nat.le_max_left _ _)) (k2.more_le (fun b hb => List.mem_append.mpr (.inr hb)) (Nat.le_max_right _ _))
theorem depth_lst (ds : List PyData) : PyData.depthAll ds < (PyData.list ds).depth := by
  simp only [PyData.depth]
  omega
theorem depth_tup (ds : List PyData) : PyData.depthAll ds < (PyData.tuple ds).depth := by
  simp only [PyData.depth]
  omega
theorem RdZ.shows {P : Program} {w : World} {h : Heap} {v : Value} {d : PyData} (r : RdZ h v d) : ShowsZ P w h v d := by
  have nob : ∀ n, ReadAtMost h n [] := fun n b hb => absurd hb (by simp)
  induction r with
  | non => exact fun _ _ => ⟨[], nob _, by simp only [PyData.shown]; exact .of_is .none _ _ _⟩
  | bl b => exact fun _ _ => ⟨[], nob _, by simp only [PyData.shown]; exact .of_is (.bool b) _ _ _⟩
  | int i t => exact fun hs _ => ⟨[], nob _, by simp only [PyData.shown]; exact .of_is (.int t (of_decide_eq_true (by simpa only [PyData.showable] using hs))) _ _ _⟩
  | str x t => exact fun _ hz => ⟨[], nob _, by simp only [PyData.shown] at hz ⊢; exact .of_is (.str x t hz) _ _ _⟩
  | @lst a o us n ds ho hc hd hl hi ih =>
    intro hs hz
    obtain ⟨as, rd⟩ := (RdZ.lst ho hc hd hl hi).reads
    simp only [PyData.shown] at hz
    obtain ⟨bs, pb, kb⟩ := showsAll_each hl ih (by simpa only [PyData.showable] using hs) fun t ht => Nat.le_trans (listText_mem_le ht) hz
    have out : a ∉ bs := not_mem_of_deeper rd (depth_lst ds) pb
    refine ⟨a :: bs, .cons rd (Nat.le_of_lt (depth_lst ds)) pb, ?_⟩
    simp only [PyData.depth, PyData.shown]
    obtain ⟨l⟩ := us
    cases l with
    | nil =>
      have e0 : ds = [] := List.length_eq_zero_iff.mp (by simpa using hl.symm)
      subst e0
      simp only [PyData.shownAll, listText_nil]
      exact .listEmpty ho hc hd
    | cons u l => exact .list ho hc hd out (by simpa using kb.length_eq) fun i y e => kb.item i y (by simpa using e)
  | @tup a o us n ds ho hc hd hl hi ih =>
    intro hs hz
    obtain ⟨as, rd⟩ := (RdZ.tup ho hc hd hl hi).reads
    simp only [PyData.shown] at hz
    obtain ⟨bs, pb, kb⟩ := showsAll_each hl ih (by simpa only [PyData.showable] using hs) fun t ht => Nat.le_trans (tupleText_mem_le ht) hz
    have out : a ∉ bs := not_mem_of_deeper rd (depth_tup ds) pb
    refine ⟨a :: bs, .cons rd (Nat.le_of_lt (depth_tup ds)) pb, ?_⟩
    simp only [PyData.depth, PyData.shown]
    exact .tuple ho hc hd out kb
  | @dic a o es n ho hc hd he hs =>
    intro _ _
    obtain ⟨as, rd⟩ := (RdZ.dic ho hc hd he hs).reads
    refine ⟨[a], .cons rd (Nat.zero_le _) (nob 0), ?_⟩
    have e1 : (PyData.dict []).depth = 0 + 1 := by simp [PyData.depth, PyData.depthKv]
    have e2 : (PyData.dict []).shown = dictText [] := by simp [PyData.shown, PyData.shownKv]
    rw [e1, e2]
    refine .dict ho hc hd hs (by simp) ?_
    rw [he]
    exact .nil
section
variable {P : Program} {w : World} {A : Around} {E : Value → Shared → Prop} {s : Shared}
theorem repr_rdz {a : Addr} {d : PyData} {Q : Value → Shared → Prop} (r : RdZ s.heap (.ref a) d) (hs : d.showable = true) (hz : d.shown.length ≤ sizeLine) (hg : A.guards = some []) (hu : A.units + (d.depth + 1) < cLine)
    (hQ : ∀ h' u tk, (∀ b o, s.heap.get? b = some o → h'.get? b = some o) → Q (.str d.shown u) { s with heap := h', toks := tk }) : wpAny (model P w) A (call (.builtin "repr") [.ref a]) Q E s := by
  obtain ⟨as, rd⟩ := r.reads
  have fin : ∀ h' u tk, (∀ b o, s.heap.get? b = some o → h'.get? b = some o) → ∃ x t, Value.str d.shown u = .str x t ∧ Q (.str d.shown u) { s with heap := h', toks := tk } := fun h' u tk k => ⟨_, _, rfl, hQ h' u tk k⟩
  cases r with
  | @lst _ o us n ds ho hc hd hl hi =>
    simp only [PyData.shown] at hz fin
    simp only [PyData.depth] at hu
    obtain ⟨bs, pb, kb⟩ := showsAll_each hl (fun i u d h1 h2 => (hi i u d h1 h2).shows) (by simpa only [PyData.showable] using hs) fun t ht => Nat.le_trans (listText_mem_le ht) hz
    have out : a ∉ bs := not_mem_of_deeper rd (depth_lst ds) pb
    refine call_repr_slot (by omega) ⟨o, ho, hc⟩ F.slot_list_repr.toG ?_
    obtain ⟨l⟩ := us
    cases l with
    | nil =>
      have e0 : ds = [] := List.length_eq_zero_iff.mp (by simpa using hl.symm)
      subst e0
      simp only [PyData.shownAll, listText_nil] at fin
      exact call_list_repr_empty ⟨o, ho, hc⟩ ho hd (fin s.heap _ _ fun _ _ e => e)
    | cons u l =>
      exact call_list_reprK (prog := P) (w := w) ho hc hd out (by simpa using kb.length_eq) (fun i y e => kb.item i y (by simpa using e)) hg (fun b _ => Clear.nil b) (by show A.units + 1 + _ < cLine; omega) (fun _ _ e => e) fin hz
  | @tup _ o us n ds ho hc hd hl hi =>
    simp only [PyData.shown] at hz fin
    simp only [PyData.depth] at hu
    obtain ⟨bs, pb, kb⟩ := showsAll_each hl (fun i u d h1 h2 => (hi i u d h1 h2).shows) (by simpa only [PyData.showable] using hs) fun t ht => Nat.le_trans (tupleText_mem_le ht) hz
    have out : a ∉ bs := not_mem_of_deeper rd (depth_tup ds) pb
    refine call_repr_slot (by omega) ⟨o, ho, hc⟩ F.slot_tuple_repr ?_
    exact call_tuple_reprK (prog := P) (w := w) ho hc hd out kb hg (fun b _ => Clear.nil b) (by show A.units + 1 + _ < cLine; omega) (fun _ _ e => e) fin hz
  | @dic _ o es n ho hc hd he hq =>
    have e1 : (PyData.dict []).depth = 0 + 1 := by simp [PyData.depth, PyData.depthKv]
    have e2 : (PyData.dict []).shown = dictText [] := by simp [PyData.shown, PyData.shownKv]
    rw [e2] at hz fin
    rw [e1] at hu
    refine call_repr_slot (by omega) ⟨o, ho, hc⟩ F.slot_dict_repr ?_
    refine call_dict_reprK (prog := P) (w := w) (as := []) (d := 0) ho hc hd hq (by simp) ?_ hg (fun b _ => Clear.nil b) (by show A.units + 1 + _ < cLine; omega) (fun _ _ e => e) fin hz
    rw [he]
    exact .nil
end
/-! ### at the layer -/
/-- v stands for d; a dict is an empty one -/
inductive Dz (H : Hp) : V → PyData → Prop
  | non : Dz H .non .none
  | bl (b : Bool) : Dz H (.bl b) (.bool b)
  | int (i : Int) : Dz H (.int i) (.int i)
  | str (x : Str) (hz : x.length ≤ sizeLine) : Dz H (.str x) (.str x)
  | lst {a : Addr} {xs : List V} {ds : List PyData} (h : H a = some (.lst xs)) (hl : xs.length = ds.length) (hi : ∀ (i : Nat) (x : V) (e : PyData), xs[i]? = some x → ds[i]? = some e → Dz H x e) : Dz H (.ref a) (.list ds)
  | tup {a : Addr} {xs : List V} {ds : List PyData} (h : H a = some (.tup xs)) (hl : xs.length = ds.length) (hi : ∀ (i : Nat) (x : V) (e : PyData), xs[i]? = some x → ds[i]? = some e → Dz H x e) : Dz H (.ref a) (.tuple ds)
  | dic {a : Addr} (h : H a = some (.dK [])) : Dz H (.ref a) (.dict [])
section
variable {H H' : Hp}
theorem Dz.da {v : V} {d : PyData} (h : Dz H v d) : Da H v d := by
  induction h with
  | non => exact .non
  | bl b => exact .bl b
  | int i => exact .int i
  | str x hz => exact .str x hz
  | lst h hl _ ih => exact .lst h hl ih
  | tup h hl _ ih => exact .tup h hl ih
  | dic h => exact .dic h
theorem Dz.on (s : Same H H') {v : V} {d : PyData} (h : Dz H v d) : Dz H' v d := by
  induction h with
  | non => exact .non
  | bl b => exact .bl b
  | int i => exact .int i
  | str x hz => exact .str x hz
  | lst h hl _ ih => exact .lst (s _ _ h) hl ih
  | tup h hl _ ih => exact .tup (s _ _ h) hl ih
  | dic h => exact .dic (s _ _ h)
theorem Da.dz {v : V} {d : PyData} (h : Da H v d) : d.hasDict = false → Dz H v d := by
  induction h with
  | non => exact fun _ => .non
  | bl b => exact fun _ => .bl b
  | int i => exact fun _ => .int i
  | str x hz => exact fun _ => .str x hz
  | lst h hl _ ih => exact fun n => .lst h hl fun i x e h1 h2 => ih i x e h1 h2 (nodict_mem (by simpa [PyData.hasDict] using n) (List.mem_of_getElem? h2))
  | tup h hl _ ih => exact fun n => .tup h hl fun i x e h1 h2 => ih i x e h1 h2 (nodict_mem (by simpa [PyData.hasDict] using n) (List.mem_of_getElem? h2))
  | dic h => exact fun n => absurd n (by simp [PyData.hasDict])
end
section
variable {X : Cx} {pins : List (Addr × Obj)} {σ : Slots} {H : Hp} {s : Shared}
theorem vals_at : ∀ {vs : List V} {us : List Value} {i : Nat} {u : Value}, Vals vs us → us[i]? = some u → ∃ v, vs[i]? = some v ∧ RelV v u
  | _, _, i, u, .nil, e => by simp at e
  | _, _, 0, u, .cons h _, e => by
    simp at e
    subst e
    exact ⟨_, rfl, h⟩
  | _, _, i + 1, u, .cons _ t, e => by
    obtain ⟨v, h1, h2⟩ := vals_at (i := i) t (by simpa using e)
    exact ⟨v, by simpa using h1, h2⟩
theorem Dz.rdz (I : Inv X pins σ H s) {v : V} {d : PyData} (h : Dz H v d) : ∀ u, RelV v u → RdZ s.heap u d := by
  induction h with
  | non =>
    intro u r
    cases r
    exact .non
  | bl b =>
    intro u r
    cases r
    exact .bl b
  | int i =>
    rintro u ⟨t, rfl⟩
    exact .int i t
  | str x hz =>
    rintro u ⟨t, rfl⟩
    exact .str x t
  | lst h hl hi ih =>
    intro u r
    cases r
    obtain ⟨its, rv, ⟨o, n, ho, hc, _, hd⟩, _⟩ := I.list (SqL.of h)
    refine .lst ho hc hd ?_ fun i u d h1 h2 => ?_
    · rw [← hl, rv.length]
    · obtain ⟨v, hv, rr⟩ := vals_at rv h1
      exact ih i v d hv h2 u rr
  | tup h hl hi ih =>
    intro u r
    cases r
    obtain ⟨its, rv, ⟨o, ho, hc, n, hd⟩, _⟩ := I.tuple (SqT.of h)
    refine .tup ho hc hd ?_ fun i u d h1 h2 => ?_
    · rw [← hl, rv.length]
    · obtain ⟨v, hv, rr⟩ := vals_at rv h1
      exact ih i v d hv h2 u rr
  | @dic a h =>
    intro u r
    cases r
    obtain ⟨_, hs, vs, kv, o, es, ep, ho, hx, hdt, _, hp, _⟩ := (show ObjOk X.prog X.w H s.heap a (.dK []) from I.hok a _ h)
    cases kv
    exact .dic ho hx.1 hdt (List.length_eq_zero_iff.mp hp.length) hs
/-- repr(x), where no repr is under way; x may hold an empty dict -/
def rReprZ : List V → Hp → VK → Prop := fun vs H Q => ∃ (x : V) (d : PyData), vs = [x] ∧ Dz H x d ∧ d.depth ≤ 20 ∧ d.shown.length ≤ sizeLine ∧ d.showable = true ∧ Q (.str d.shown) H
theorem cr_reprZ (hg : X.A.guards = some []) (hu : X.A.units + 64 < cLine) : CallR X (.builtin "repr") rReprZ := by
  intro pins s σ H vs us Q I r h
  obtain ⟨x, d, rfl, hd, dp, sz, sh, q⟩ := h
  obtain ⟨u, rfl, ru⟩ := vals1 r
  have rd := hd.rdz I u ru
  cases hd with
  | non =>
    cases ru
    exact P.repr_of_none ⟨.str _, H, I.tok _, ⟨_, rfl⟩, q⟩
  | bl b =>
    cases ru
    exact P.repr_of_bool ⟨.str _, H, I.tok _, ⟨_, rfl⟩, q⟩
  | int i =>
    obtain ⟨t, rfl⟩ := ru
    exact P.repr_of_int (by simpa [PyData.showable] using sh) ⟨.str _, H, I.tok _, ⟨_, rfl⟩, q⟩
  | str y _ =>
    obtain ⟨t, rfl⟩ := ru
    exact P.repr_of_str ⟨.str _, H, I.tok _, ⟨_, rfl⟩, q⟩ sz
  | lst h hl hi =>
    cases ru
    exact repr_rdz rd sh sz hg (by omega) fun h' u' tk kp => ⟨.str _, H, I.kept (t' := tk) kp, ⟨_, rfl⟩, q⟩
  | tup h hl hi =>
    cases ru
    exact repr_rdz rd sh sz hg (by omega) fun h' u' tk kp => ⟨.str _, H, I.kept (t' := tk) kp, ⟨_, rfl⟩, q⟩
  | dic h =>
    cases ru
    exact repr_rdz rd sh sz hg (by omega) fun h' u' tk kp => ⟨.str _, H, I.kept (t' := tk) kp, ⟨_, rfl⟩, q⟩
end
end Cry
/-! The later stages' draws: a reel of great cells and of a stirred number. -/
namespace Cry
open PySem PySem.Spec PyProof.Rows L2
abbrev bigR : Int := 170141183460469231731687303715884105727
/-- a reel stands at a, its great cells at g, its other cells at m -/
def ReelAt (H : Hp) (a g m : Addr) : Prop := ∃ (gs ms : List Int) (cnt stir : Int), H a = some (.lst [.ref g, .ref m, .int cnt, .int stir]) ∧ H g = some (.lst (gs.map V.int)) ∧ H m = some (.lst (ms.map V.int)) ∧ (∀ x ∈ gs, 0 ≤ x) ∧ gs.length ≤ 63 ∧ ms ≠ [] ∧ ms.length ≤ 64 ∧ 0 ≤ stir ∧ stir < bigR ∧ g ≠ a ∧ m ≠ a
theorem ReelAt.on {H H' : Hp} {a g m : Addr} (h : ReelAt H a g m) (s : Same H H') : ReelAt H' a g m := by
  obtain ⟨gs, ms, cnt, stir, h1, h2, h3, r⟩ := h
  exact ⟨gs, ms, cnt, stir, s _ _ h1, s _ _ h2, s _ _ h3, r⟩
theorem ReelAt.up {H : Hp} {a g m p : Addr} {o : HO} (h : ReelAt H a g m) (n : p ≠ a) (ng : p ≠ g) (nm : p ≠ m) : ReelAt (upd H p o) a g m := by
  obtain ⟨gs, ms, cnt, stir, h1, h2, h3, r⟩ := h
  exact ⟨gs, ms, cnt, stir, by rw [upd_ne (Ne.symm n)]; exact h1, by rw [upd_ne (Ne.symm ng)]; exact h2, by rw [upd_ne (Ne.symm nm)]; exact h3, r⟩
theorem ReelAt.ne {H : Hp} {a g m p : Addr} (h : ReelAt H a g m) (np : H p = none) : p ≠ a ∧ p ≠ g ∧ p ≠ m := by
  obtain ⟨gs, ms, cnt, stir, h1, h2, h3, r⟩ := h
  refine ⟨?_, ?_, ?_⟩
  · rintro rfl
    rw [np] at h1
    cases h1
  · rintro rfl
    rw [np] at h2
    cases h2
  · rintro rfl
    rw [np] at h3
    cases h3
theorem ReelAt.new {H : Hp} {a g m p : Addr} {o : HO} (h : ReelAt H a g m) (np : H p = none) : ReelAt (upd H p o) a g m := h.on (same_new np)
theorem ReelAt.free {H H' : Hp} {a g m p : Addr} (h : ReelAt H' a g m) (so : SameO a H H') (np : H' p = none) : H p = none := by
  cases e : H p with
  | none => rfl
  | some o =>
    have := so p o (h.ne np).1 e
    rw [np] at this
    cases this
theorem ReelAt.ts {H H' : Hp} {a g m : Addr} (h : ReelAt H a g m) (s : SameO a H H') : TS H H' := by
  obtain ⟨gs, ms, cnt, stir, h1, r⟩ := h
  exact TS.sameO s fun ys e => by
    rw [h1] at e
    cases e
theorem cut_takeR (us : List V) (m : Nat) : cutV us none (some (m : Int)) = us.take m := by
  unfold cutV
  have h1 : HT.sIx us.length us.length (some (m : Int)) = min m us.length := by
    unfold HT.sIx
    simp only [Int.toNat_natCast]
    rw [if_neg (by omega)]
  have h0 : HT.sIx us.length 0 none = 0 := rfl
  rw [h1, h0, List.drop_zero, Nat.sub_zero]
  by_cases h : m ≤ us.length
  · rw [Nat.min_eq_left h]
  · rw [Nat.min_eq_right (by omega), List.take_of_length_le (Nat.le_refl _), List.take_of_length_le (by omega)]
theorem ints_dps {K : PySem.W.Frag} {H : Hp} : ∀ ns : List Int, DpAll K H (ns.map V.int) (ns.map PyData.int)
  | [] => .nil
  | n :: ns => .cons (.int n) (ints_dps ns)
theorem ints_dp {K : PySem.W.Frag} {H : Hp} {l : Addr} {ns : List Int} (h : H l = some (.lst (ns.map V.int))) : Dp K H (.ref l) (.list (ns.map PyData.int)) := .lst (SqL.of h) (ints_dps ns)
theorem canLay_ints : ∀ ns : List Int, PyData.canLayAll0 (ns.map PyData.int) = true
  | [] => rfl
  | n :: ns => by
    show (true && PyData.canLayAll0 (ns.map PyData.int)) = true
    rw [canLay_ints ns]
    rfl
theorem depth_ints : ∀ ns : List Int, PyData.depthAll (ns.map PyData.int) = 0
  | [] => rfl
  | n :: ns => by
    show max 0 (PyData.depthAll (ns.map PyData.int)) = 0
    rw [depth_ints ns]
    rfl
theorem shaped_ints (ns : List Int) : SeqAt.shaped (.list (ns.map PyData.int)) = true := by
  unfold SeqAt.shaped
  have h1 : PyData.canLay0 (.list (ns.map PyData.int)) = true := canLay_ints ns
  have h2 : PyData.depth (.list (ns.map PyData.int)) = 1 := by
    show PyData.depthAll (ns.map PyData.int) + 1 = 1
    rw [depth_ints]
  rw [h1, h2]
  rfl
theorem eqv_nilR (ds : List PyData) : PyData.eqv (.list ds) (.list []) = ds.isEmpty := by
  cases ds <;> rfl
theorem shaped_nilR : SeqAt.shaped (.list []) = true := by decide +kernel
section
variable {P : Program} {w : World} {K : PySem.W.Frag} {mg : Str → Option Value} {base : Heap}
theorem scReel : FnScope ["script", "stir", "cell", "great"] ["script"] (defScope sLReel) := ⟨rfl, rfl, rfl, by decide +kernel, rfl, by decide +kernel, by decide +kernel⟩
def spReel (K : PySem.W.Frag) : Sp := fun vs H Q _ => ∃ (s : Addr) (ns : List Int), vs = [.ref s] ∧ SqL K H s (ns.map V.int) ∧ ∀ a g m H', Same H H' → H a = none → H g = none → H m = none → ReelAt H' a g m → Q (.ref a) H'
theorem ok_reel {f : Addr} {fd : FuncData} (F : Fun K "_law_reel" "_law_reel" sLReel f fd) : FnOk P w K mg base CX0 1 f fd ["script"] (spReel K) := by
  refine F.ok scReel (fun vs H Q E h => ?_) (fun cdv A outer s H vs Q E hr h => ?_)
  · obtain ⟨a, ns, rfl, _⟩ := h
    rfl
  · obtain ⟨sc, ns, rfl, hS, q⟩ := h
    refine ⟨_, pss_cons (ps_set (i := 1) scReel.nd rfl (Or.inl rfl) (pe_op op_pow pe_int pe_int))
      (pss_cons (ps_for PassesOwn.never rfl (pi_list (pe_slice sl_list (pv 0) po_none (po_some pe_int))) (pg_name (i := 2) scReel.nd rfl (Or.inl rfl))
        (pss_one (ps_set (i := 1) scReel.nd rfl (Or.inl rfl) (pe_op op_mod (pe_op op_add (pe_op op_add (pe_op op_mulW (pv 1) (pv 1)) (pe_op op_mod (pv 2) pe_int)) pe_int) (pe_op op_sub (pe_op op_mul (pe_op op_pow pe_int pe_int) (pe_op op_pow pe_int pe_int)) pe_int)))))
      (pss_cons (ps_setLc (i := 3) (own := [("cell", 2)]) (g := gName 2) (tt := tTest (tOp (rI0 fun i j => .bl (decide (j ≤ i))) (tVar 2) (tOp (rI CPow fun i j => .int (i ^ j.toNat)) (tC (.int 10)) (tC (.int 18))))) (te := tOp (rI0 fun i j => .int (i - j)) (tVar 2) (tOp (rI CPow fun i j => .int (i ^ j.toNat)) (tC (.int 10)) (tC (.int 18)))) (by rfl) scReel.nd rfl rfl (sw_true rfl rfl rfl (by decide +kernel))
            (pi_list (pe_slice sl_list (pv 0) po_none (po_some pe_int))) (blkOk_by (N := ["script", "stir", "cell", "great"]) (sc := defScope sLReel) (by decide +kernel)) (fun _ _ _ _ _ => pg_name (i := 2) scReel.nd rfl (Or.inl rfl))
            (fun _ _ _ _ _ => pts_one (pt_cmpR op_ge (pv 2) (pe_op op_pow pe_int pe_int) (nomark _))) (fun _ _ _ _ _ => pe_op op_sub (pv 2) (pe_op op_pow pe_int pe_int)))
      (pss_one (ps_ret (pe_lst (pa_cons (pv 3) (pa_cons (pe_op op_cat (pe_lc (own := [("cell", 2)]) (g := gName 2) (tt := tYes) (te := tOp (rI (fun _ j => 0 < j) fun i j => .int (i % j)) (tVar 2) (tC (.int 1000003))) rfl scReel.nd
            (pi_list (pe_slice sl_list (pv 0) po_none (po_some pe_int))) (blkOk_by (N := ["script", "stir", "cell", "great"]) (sc := defScope sLReel) (by decide +kernel)) (fun _ _ _ _ _ => pg_name (i := 2) scReel.nd rfl (Or.inl rfl))
            (fun _ _ _ _ _ => pts_nil) (fun _ _ _ _ _ => pe_op op_mod (pv 2) pe_int)) (pe_lst (pa_cons pe_int pa_nil))) (pa_cons pe_int (pa_cons (pv 1) pa_nil))))))))), ?_⟩
    have l63 : (ns.take 63).length ≤ 63 := by rw [List.length_take]; omega
    have cut : cutV (ns.map V.int) none (some 63) = (ns.take 63).map V.int := by
      rw [show (63 : Int) = ((63 : Nat) : Int) from rfl, cut_takeR, ← List.map_take]
    generalize ns.take 63 = cs at l63 cut
    refine ⟨_, _, rfl, rfl, ⟨by decide, by decide, by decide⟩, ?_⟩
    refine ⟨_, rfl, 63, rfl, sc, _, rfl, hS, fun p np => ?_⟩
    rw [cut]
    have s1 : Same H (upd H p (.lst (cs.map V.int))) := same_new np
    refine ⟨p, rfl, ⟨_, SqL.of upd_same⟩, for_list (K := K) (a := p) (xs := cs.map V.int) (fun i σ H2 => H2 = upd H p (.lst (cs.map V.int)) ∧ ∃ (t : Int) (u : Option V), σ = [some (.ref sc), some (.int t), u, none] ∧ 0 ≤ t ∧ t < bigR)
      ⟨rfl, _, none, rfl, by decide, by decide⟩ (fun i σ H2 _ ⟨e, _⟩ => by rw [e]; exact SqL.of upd_same) ?_ ?_⟩
    · rintro i y σ H2 hy ⟨rfl, t, u, rfl, t0, t1⟩
      obtain ⟨z, rfl⟩ : ∃ z, y = V.int z := by
        rw [List.getElem?_map] at hy
        cases e : cs[i]? with
        | none =>
          rw [e] at hy
          cases hy
        | some z =>
          rw [e] at hy
          exact ⟨z, (Option.some.inj hy).symm⟩
      have tb : t.natAbs < 2 ^ 127 := by
        have : t < 170141183460469231731687303715884105727 := t1
        omega
      refine ⟨_, rfl, _, rfl, _, _, rfl, rfl, wide_mul tb tb (by decide) (by decide) (by decide), _, rfl, _, _, rfl, rfl, (by show (0 : Int) < 1000000000000000003; decide), _, _, rfl, rfl, _, _, rfl, rfl,
        _, _, rfl, rfl, ⟨by decide, by decide, by decide⟩, _, _, rfl, rfl, ⟨by decide, by decide, by decide⟩, _, _, rfl, rfl, .inr ⟨by decide, by decide⟩, _, _, rfl, rfl, _, _, rfl, rfl, (by show (0 : Int) < 2 ^ (64 : Int).toNat * 2 ^ (63 : Int).toNat - 1; decide), ?_⟩
      refine ⟨rfl, _, _, rfl, Int.emod_nonneg _ (by decide), ?_⟩
      refine Int.lt_of_lt_of_le (Int.emod_lt_of_pos _ (by decide)) (by decide)
    · rintro σ H2 ⟨rfl, t, u, rfl, t0, t1⟩
      -- great
      refine ⟨_, rfl, 63, rfl, sc, _, rfl, s1.seq hS, fun p2 np2 => ?_⟩
      rw [cut]
      have s2 := s1.trans (same_new (o := .lst (cs.map V.int)) np2)
      have hp2 : (upd (upd H p (.lst (cs.map V.int))) p2 (.lst (cs.map V.int))) p2 = some (.lst (cs.map V.int)) := upd_same
      generalize (upd (upd H p (.lst (cs.map V.int))) p2 (.lst (cs.map V.int))) = H3 at s2 hp2 ⊢
      refine ⟨p2, rfl, ⟨_, SqL.of hp2⟩, fun D nD => ?_⟩
      have at_ : ∀ (j : Nat) (v : V), (cs.map V.int)[j]? = some v → v = .int ((cs[j]?).getD 0) := fun j v e => by
        rw [List.getElem?_map] at e
        cases h : cs[j]? with
        | none =>
          rw [h] at e
          cases e
        | some z =>
          rw [h] at e
          exact (Option.some.inj e).symm
      have lc : (cs.map V.int).length = cs.length := List.length_map ..
      refine lc_sift (walk_list (K := K) (a := p2) (xs := cs.map V.int)) (fun j => decide ((10 : Int) ^ (18 : Int).toNat ≤ (cs[j]?).getD 0)) (fun j => .int ((cs[j]?).getD 0 - (10 : Int) ^ (18 : Int).toNat)) (by rw [lc]; exact Nat.le_trans l63 (by decide)) nD
        (fun H4 s4 => s4.seq (SqL.of hp2)) yAt_same (fun j v H4 H5 Z N hj s4 hy k1 k2 => ?_) fun H4 s4 h4 => ?_
      · obtain ⟨rfl, ev⟩ := hy
        cases at_ j v ev
        refine ⟨rfl, _, rfl, _, _, rfl, rfl, ⟨by decide, by decide, by decide⟩, _, _, rfl, rfl, _, rfl, ?_⟩
        by_cases le : (10 : Int) ^ (18 : Int).toNat ≤ (cs[j]?).getD 0
        · rw [decide_eq_true le]
          exact iteT ⟨_, rfl, _, _, rfl, rfl, ⟨by decide, by decide, by decide⟩, _, _, rfl, rfl, k1 (decide_eq_true le) _ (Same.refl _)⟩
        · rw [decide_eq_false le]
          exact iteF (k2 (decide_eq_false le) _ (Same.refl _))
      · rw [lc, filter_range_map cs (fun z => decide ((10 : Int) ^ (18 : Int).toNat ≤ z)) (fun z => V.int (z - (10 : Int) ^ (18 : Int).toNat)) 0] at h4
        have s24 := s2.trans s4
        -- the rows handed out
        refine ⟨_, rfl, _, rfl, 63, rfl, sc, _, rfl, s24.seq hS, fun p3 np3 => ?_⟩
        rw [cut]
        have s5 := s24.trans (same_new (o := .lst (cs.map V.int)) np3)
        have hD5 := same_new (o := .lst (cs.map V.int)) np3 _ _ h4
        have hp3 : (upd H4 p3 (.lst (cs.map V.int))) p3 = some (.lst (cs.map V.int)) := upd_same
        generalize (upd H4 p3 (.lst (cs.map V.int))) = H5 at s5 hp3 hD5 ⊢
        refine ⟨p3, rfl, ⟨_, SqL.of hp3⟩, fun D2 nD2 => ?_⟩
        refine lc_pure (walk_list (K := K) (a := p3) (xs := cs.map V.int)) (fun j => .int ((cs[j]?).getD 0 % 1000003)) (by rw [lc]; exact Nat.le_trans l63 (by decide)) nD2
          (fun H6 s6 => s6.seq (SqL.of hp3)) yAt_same (fun j v H6 H7 Z hj s6 hy k1 => ?_) fun H6 s6 h6 => ?_
        · obtain ⟨rfl, ev⟩ := hy
          cases at_ j v ev
          exact ⟨rfl, _, rfl, _, _, rfl, rfl, (by show (0 : Int) < 1000003; decide), k1 _ (Same.refl _)⟩
        · rw [lc] at h6
          obtain ⟨ms, hms, lms⟩ : ∃ ms : List Int, (List.range cs.length).map (fun j => V.int ((cs[j]?).getD 0 % 1000003)) = ms.map V.int ∧ ms.length = cs.length := ⟨(List.range cs.length).map fun j => (cs[j]?).getD 0 % 1000003, by rw [List.map_map]; rfl, by rw [List.length_map, List.length_range]⟩
          rw [hms] at h6
          refine ⟨by show 1 ≤ sizeLine; decide, fun p4 np4 => ?_⟩
          have h7 := same_new (o := .lst [.int 41]) np4 _ _ h6
          have s7 := s6.trans (same_new (o := .lst [.int 41]) np4)
          refine ⟨D2, p4, _, _, rfl, rfl, h7, upd_same, ?_, fun M nM => ?_⟩
          · rw [List.length_map, lms]
            exact Nat.le_trans (show cs.length + 1 ≤ 64 by omega) (by decide)
          · refine ⟨_, rfl, by show 4 ≤ sizeLine; decide, fun a na => ?_⟩
            have s8 := s7.trans (same_new (o := .lst (ms.map V.int ++ [.int 41])) nM)
            have hM : (upd (upd H6 p4 (.lst [.int 41])) M (.lst (ms.map V.int ++ [.int 41]))) M = some (.lst ((ms ++ [41]).map V.int)) := by
              rw [upd_same, List.map_append]
              rfl
            have hD8 := s8 _ _ hD5
            have nM5 : H5 M = none := s7.free nM
            generalize (upd (upd H6 p4 (.lst [.int 41])) M (.lst (ms.map V.int ++ [.int 41]))) = H8 at s8 hM hD8 na ⊢
            have s9 := s8.trans (same_new (o := .lst [.ref D, .ref M, .int 0, .int t]) na)
            have s19 := s5.trans s9
            refine q a D M _ s19 ((s5.trans s8).free na) (s2.free nD) (s5.free nM5) ?_
            refine ⟨(cs.filter fun z => decide ((10 : Int) ^ (18 : Int).toNat ≤ z)).map fun z => z - (10 : Int) ^ (18 : Int).toNat, ms ++ [41], 0, t, upd_same, ?_, same_new na _ _ hM, ?_, ?_, by simp, ?_, t0, t1, ?_, ?_⟩
            · rw [same_new na _ _ hD8, List.map_map]
              rfl
            · intro x hx
              obtain ⟨z, hz, rfl⟩ := List.mem_map.mp hx
              have := of_decide_eq_true (List.mem_filter.mp hz).2
              omega
            · rw [List.length_map]
              exact Nat.le_trans (List.length_filter_le _ _) l63
            · rw [List.length_append, lms]
              show cs.length + 1 ≤ 64
              omega
            · rintro rfl
              rw [na] at hD8
              cases hD8
            · rintro rfl
              rw [na] at hM
              cases hM
end
end Cry
/-! The later stages' draws: one drawn number. -/
namespace Cry
open PySem PySem.Spec PyProof.Rows L2
section
variable {P : Program} {w : World} {K : PySem.W.Frag} {mg : Str → Option Value} {base : Heap}
abbrev nRDraw : List Str := ["reel", "many", "rest", "told", "stir"]
theorem scRDraw : FnScope nRDraw ["reel", "many"] (defScope sDraw) := ⟨rfl, rfl, rfl, by decide +kernel, rfl, by decide +kernel, by decide +kernel⟩
def spRDraw : Sp := fun vs H Q _ => ∃ (a g m : Addr) (n : Int), vs = [.ref a, .int n] ∧ ReelAt H a g m ∧ 1 ≤ n ∧ n ≤ 10000000000000000000000000000000000 ∧ ∀ (r : Nat) g' H', (r : Int) < n → SameO a H H' → (g' = g ∨ H g' = none) → ReelAt H' a g' m → Q (.int (r : Int)) H'
theorem ok_rdraw {f : Addr} {fd : FuncData} (F : Fun K "_law_draw" "_law_draw" sDraw f fd) (mL : mg "len" = none) (mI : mg "int" = none) : FnOk P w K mg base CX0 1 f fd ["reel", "many"] spRDraw := by
  refine F.ok scRDraw (fun vs H Q E h => ?_) (fun cdv A outer s H vs Q E hr h => ?_)
  · obtain ⟨a, g, m, n, rfl, _⟩ := h
    rfl
  · obtain ⟨a, g, m, n, rfl, ⟨gs, ms, cnt, stir, ha, hg, hm, g0, gl, mn, ml, t0, t1, nga, nma⟩, n1, n2, q⟩ := h
    refine ⟨_, pss_cons (ps_if (pt_cmpR (op_neD hr.units) (pe_ix ix_list (pv 0) pe_int (fun _ _ => rfl)) (pe_lst pa_nil) (nomark _))
        (pss_cons (ps_set (i := 2) scRDraw.nd rfl (Or.inl rfl) (pe_ix ix_list (pe_ix ix_list (pv 0) pe_int (fun _ _ => rfl)) pe_int (fun _ _ => rfl)))
        (pss_cons (ps_asg (pe_op op_cat (pe_op op_rep (pe_lst (pa_cons (pe_op op_fdivW (pv 2) (pv 1)) pa_nil)) (pe_callTy call_int1 (by rfl) mI (by decide +kernel) (pa_cons (pe_cmpR op_ge (pv 2) (pv 1) (nomark _)) pa_nil)))
            (pe_slice sl_list (pe_ix ix_list (pv 0) pe_int (fun _ _ => rfl)) (po_some pe_int) po_none)) (pg_sub (pv 0) pe_int set_list))
        (pss_one (ps_ret (pe_op op_mod (pv 2) (pv 1)))))) pss_nil)
      (pss_cons (ps_asg (pe_op op_add (pe_ix ix_list (pv 0) pe_int (fun _ _ => rfl)) pe_int) (pg_sub (pv 0) pe_int set_list))
      (pss_cons (ps_set (i := 3) scRDraw.nd rfl (Or.inl rfl) (pe_ix ix_list (pe_ix ix_list (pv 0) pe_int (fun _ _ => rfl)) (pe_op op_mod (pe_ix ix_list (pv 0) pe_int (fun _ _ => rfl)) (pe_callB cr_lenS (by rfl) mL (by decide +kernel) (pa_cons (pe_ix ix_list (pv 0) pe_int (fun _ _ => rfl)) pa_nil))) (fun _ _ => rfl)))
      (pss_cons (ps_set (i := 4) scRDraw.nd rfl (Or.inl rfl) (pe_op op_add (pe_op op_add (pe_op op_mulW (pe_ix ix_list (pv 0) pe_int (fun _ _ => rfl)) (pe_ix ix_list (pv 0) pe_int (fun _ _ => rfl))) (pe_op op_mul (pe_op op_add (pv 3) pe_int) pe_int)) (pe_op op_mul (pe_ix ix_list (pv 0) pe_int (fun _ _ => rfl)) pe_int)))
      (pss_cons (ps_asg (pe_op op_mod (pv 4) (pe_op op_sub (pe_op op_mul (pe_op op_pow pe_int pe_int) (pe_op op_pow pe_int pe_int)) pe_int)) (pg_sub (pv 0) pe_int set_list))
      (pss_one (ps_ret (pe_op op_mod (pe_op op_fdivW (pe_ix ix_list (pv 0) pe_int (fun _ _ => rfl)) (pe_op op_pow pe_int pe_int)) (pv 1)))))))), ?_⟩
    have hn0 : (0 : Int) < n := by omega
    have ng : g ≠ a := nga
    have fin : ∀ (z : Int) (g' : Addr) (H' : Hp), 0 ≤ z → z < n → SameO a H H' → (g' = g ∨ H g' = none) → ReelAt H' a g' m → Q (.int z) H' := fun z g' H' z0 z1 so hg' R => by
      obtain ⟨r, rfl⟩ := Int.eq_ofNat_of_zero_le z0
      exact q r g' H' z1 so hg' R
    -- reel[0] != []
    refine ⟨_, rfl, a, _, 0, _, rfl, rfl, SqL.of ha, atI_nat (j := 0) rfl, Nat.zero_le _, fun l nl => ?_⟩
    have s1 : Same H (upd H l (.lst [])) := same_new nl
    refine ⟨_, _, ints_dp (s1 _ _ hg), .lst (SqL.of upd_same) .nil, shaped_ints gs, shaped_nilR, _, rfl, ?_⟩
    rw [eqv_nilR]
    have ha1 := s1 _ _ ha
    have hg1 := s1 _ _ hg
    have hm1 := s1 _ _ hm
    generalize (upd H l (.lst [])) = H1 at s1 ha1 hg1 hm1 ⊢
    cases gs with
    | cons x r =>
      refine iteT ?_
      have x0 : 0 ≤ x := g0 x (List.mem_cons_self ..)
      refine ⟨_, rfl, a, _, 0, _, rfl, rfl, SqL.of ha1, atI_nat (j := 0) rfl, g, _, 0, _, rfl, rfl, SqL.of hg1, atI_nat (j := 0) rfl, ?_⟩
      refine ⟨_, rfl, _, rfl, _, _, rfl, rfl, wide_div (b := 120) hn0 (by omega) (by decide) (by decide), by show 1 ≤ sizeLine; decide, fun p1 np1 => ?_⟩
      have s2 := s1.trans (same_new (o := .lst [.int (x / n)]) np1)
      have hp1 : (upd H1 p1 (.lst [.int (x / n)])) p1 = some (.lst [.int (x / n)]) := upd_same
      have ha2 := same_new (o := .lst [.int (x / n)]) np1 _ _ ha1
      have hg2 := same_new (o := .lst [.int (x / n)]) np1 _ _ hg1
      have hm2 := same_new (o := .lst [.int (x / n)]) np1 _ _ hm1
      generalize (upd H1 p1 (.lst [.int (x / n)])) = H2 at s2 hp1 ha2 hg2 hm2 ⊢
      refine ⟨_, rfl, _, rfl, _, _, rfl, rfl, .inr ⟨_, rfl, p1, if decide (n ≤ x) = true then 1 else 0, _, rfl, rfl, hp1, by split <;> decide, by split <;> decide, by split <;> (first | exact (by decide : (1 : Nat) * 1 ≤ sizeLine) | exact (by decide : (1 : Nat) * 0 ≤ sizeLine)), fun p2 np2 => ?_⟩⟩
      obtain ⟨qs, eqs, q0, ql⟩ : ∃ qs : List Int, (List.replicate (if decide (n ≤ x) = true then (1 : Int) else 0).toNat [V.int (x / n)]).flatten = qs.map V.int ∧ (∀ z ∈ qs, 0 ≤ z) ∧ qs.length ≤ 1 := by
        by_cases le : n ≤ x
        · rw [decide_eq_true le]
          refine ⟨[x / n], rfl, fun z hz => ?_, Nat.le_refl _⟩
          rw [List.mem_singleton.mp hz]
          exact Int.ediv_nonneg x0 (by omega)
        · rw [decide_eq_false le]
          exact ⟨[], rfl, fun z hz => absurd hz (by simp), by decide⟩
      rw [eqs]
      have s3 := s2.trans (same_new (o := .lst (qs.map V.int)) np2)
      have hp2 : (upd H2 p2 (.lst (qs.map V.int))) p2 = some (.lst (qs.map V.int)) := upd_same
      have ha3 := same_new (o := .lst (qs.map V.int)) np2 _ _ ha2
      have hg3 := same_new (o := .lst (qs.map V.int)) np2 _ _ hg2
      have hm3 := same_new (o := .lst (qs.map V.int)) np2 _ _ hm2
      generalize (upd H2 p2 (.lst (qs.map V.int))) = H3 at s3 hp2 ha3 hg3 hm3 ⊢
      refine ⟨_, rfl, a, _, 0, _, rfl, rfl, SqL.of ha3, atI_nat (j := 0) rfl, 1, rfl, g, _, rfl, SqL.of hg3, fun p3 np3 => ?_⟩
      rw [cut_tail, show ((x :: r).map V.int).drop 1 = r.map V.int from rfl]
      have s4 := s3.trans (same_new (o := .lst (r.map V.int)) np3)
      have hp3 := same_new (o := .lst (r.map V.int)) np3 _ _ hp2
      have lr : r.length ≤ 62 := by
        have : (x :: r).length ≤ 63 := gl
        rw [List.length_cons] at this
        omega
      refine ⟨p2, p3, _, _, rfl, rfl, hp3, upd_same, ?_, fun p4 np4 => ?_⟩
      · rw [List.length_map, List.length_map]
        exact Nat.le_trans (show qs.length + r.length ≤ 63 by omega) (by decide)
      · have s5 := s4.trans (same_new (o := .lst (qs.map V.int ++ r.map V.int)) np4)
        have f4 : H p4 = none := s4.free np4
        have h4 : (upd (upd H3 p3 (.lst (r.map V.int))) p4 (.lst (qs.map V.int ++ r.map V.int))) p4 = some (.lst ((qs ++ r).map V.int)) := by
          rw [upd_same, List.map_append]
        generalize (upd (upd H3 p3 (.lst (r.map V.int))) p4 (.lst (qs.map V.int ++ r.map V.int))) = H5 at s5 h4 ⊢
        have ha5 := s5 _ _ ha
        have np4a : p4 ≠ a := by
          rintro rfl
          rw [f4] at ha
          cases ha
        refine ⟨_, rfl, a, _, 0, 0, rfl, rfl, ha5, rfl, ?_⟩
        refine ⟨_, rfl, _, rfl, _, _, rfl, rfl, hn0, ?_⟩
        refine fin _ p4 _ (Int.emod_nonneg _ (by omega)) (Int.emod_lt_of_pos _ hn0) ((SameO.of s5).trans sameO_at) (.inr f4) ⟨qs ++ r, ms, cnt, stir, upd_same, ?_, ?_, fun z hz => ?_, ?_, mn, ml, t0, t1, np4a, nma⟩
        · rw [upd_ne np4a]
          exact h4
        · rw [upd_ne nma]
          exact s5 _ _ hm
        · rcases List.mem_append.mp hz with h | h
          · exact q0 z h
          · exact g0 z (List.mem_cons_of_mem _ h)
        · rw [List.length_append]
          omega
    | nil =>
      refine iteF ?_
      have hg0 : H g = some (.lst (([] : List Int).map V.int)) := hg
      -- reel[2] = reel[2] + 1
      refine ⟨_, rfl, a, _, 2, _, rfl, rfl, SqL.of ha1, atI_nat (j := 2) rfl, _, _, rfl, rfl, ?_⟩
      refine ⟨_, rfl, a, _, 2, 2, rfl, rfl, ha1, rfl, ?_⟩
      have ha2 : (upd H1 a (.lst [.ref g, .ref m, .int (cnt + 1), .int stir])) a = some (.lst [.ref g, .ref m, .int (cnt + 1), .int stir]) := upd_same
      have hm2 : (upd H1 a (.lst [.ref g, .ref m, .int (cnt + 1), .int stir])) m = some (.lst (ms.map V.int)) := by
        rw [upd_ne nma]
        exact hm1
      have hg2 : (upd H1 a (.lst [.ref g, .ref m, .int (cnt + 1), .int stir])) g = some (.lst (([] : List Int).map V.int)) := by
        rw [upd_ne nga]
        exact hg1
      have so2 : SameO a H (upd H1 a (.lst [.ref g, .ref m, .int (cnt + 1), .int stir])) := (SameO.of s1).trans sameO_at
      show (tSeq _ _) _ _ (upd H1 a (.lst [.ref g, .ref m, .int (cnt + 1), .int stir]))
      generalize (upd H1 a (.lst [.ref g, .ref m, .int (cnt + 1), .int stir])) = H2 at ha2 hm2 hg2 so2 ⊢
      have lm : (ms.map V.int).length = ms.length := List.length_map ..
      have mp := List.length_pos_iff.mpr mn
      have ml0 : (0 : Int) < ((ms.map V.int).length : Int) := by rw [lm]; omega
      obtain ⟨j, ej⟩ := Int.eq_ofNat_of_zero_le (Int.emod_nonneg (cnt + 1) (show ((ms.map V.int).length : Int) ≠ 0 by omega))
      have jl : j < ms.length := by
        have := Int.emod_lt_of_pos (cnt + 1) ml0
        rw [ej, lm] at this
        omega
      have em : (ms.map V.int)[j]? = some (.int ms[j]) := by rw [List.getElem?_map, List.getElem?_eq_getElem jl]; rfl
      refine ⟨_, rfl, a, _, 1, _, rfl, rfl, SqL.of ha2, atI_nat (j := 1) rfl, _, rfl, a, _, 2, _, rfl, rfl, SqL.of ha2, atI_nat (j := 2) rfl, _, rfl, a, _, 1, _, rfl, rfl, SqL.of ha2, atI_nat (j := 1) rfl, m, _, rfl, .inl (SqL.of hm2), _, _, rfl, rfl, ml0, ?_⟩
      refine ⟨m, _, (cnt + 1) % ((ms.map V.int).length : Int), _, rfl, rfl, SqL.of hm2, by rw [ej]; exact atI_nat em, ?_⟩
      generalize ms[j] = told
      have tb : stir.natAbs < 2 ^ 127 := by
        have : stir < 170141183460469231731687303715884105727 := t1
        omega
      -- stir
      refine ⟨_, rfl, a, _, 3, _, rfl, rfl, SqL.of ha2, atI_nat (j := 3) rfl, _, rfl, a, _, 3, _, rfl, rfl, SqL.of ha2, atI_nat (j := 3) rfl, _, _, rfl, rfl, wide_mul tb tb (by decide) (by decide) (by decide), ?_⟩
      refine ⟨_, rfl, _, _, rfl, rfl, _, _, rfl, rfl, .inr ⟨by decide, by decide⟩, _, _, rfl, rfl, _, rfl, a, _, 2, _, rfl, rfl, SqL.of ha2, atI_nat (j := 2) rfl, _, _, rfl, rfl, .inr ⟨by decide, by decide⟩, _, _, rfl, rfl, ?_⟩
      have mod0 : (0 : Int) < 2 ^ (64 : Int).toNat * 2 ^ (63 : Int).toNat - 1 := by decide
      refine ⟨_, rfl, _, _, rfl, rfl, ⟨by decide, by decide, by decide⟩, _, _, rfl, rfl, ⟨by decide, by decide, by decide⟩, _, _, rfl, rfl, .inr ⟨by decide, by decide⟩, _, _, rfl, rfl, _, _, rfl, rfl, mod0, ?_⟩
      refine ⟨_, rfl, a, _, 3, 3, rfl, rfl, ha2, rfl, ?_⟩
      refine ⟨_, rfl, a, _, 3, _, rfl, rfl, SqL.of upd_same, atI_nat (j := 3) rfl, _, _, rfl, rfl, ⟨by decide, by decide, by decide⟩, _, _, rfl, rfl, wide_div (b := 41) (by decide) (by decide) (by decide) (by decide), _, rfl, _, _, rfl, rfl, hn0, ?_⟩
      refine fin _ g _ (Int.emod_nonneg _ (by omega)) (Int.emod_lt_of_pos _ hn0) (so2.trans sameO_at) (.inl rfl) ⟨[], ms, cnt + 1, _, upd_same, ?_, ?_, fun _ h => absurd h (by simp), by decide, mn, ml, Int.emod_nonneg _ (by decide), ?_, nga, nma⟩
      · rw [upd_ne nga]
        exact hg2
      · rw [upd_ne nma]
        exact hm2
      · exact Int.lt_of_lt_of_le (Int.emod_lt_of_pos _ mod0) (by decide)
end
end Cry
/-! The later stages' names. -/
namespace Cry
open PySem PySem.Spec PyProof.Rows L2
abbrev rAddS : R2 := fun x y H Q => ∃ i j, x = .str i ∧ y = .str j ∧ i.length + j.length ≤ sizeLine ∧ Q (.str (i ++ j)) H
/-- the signs of a text -/
def signsS (x : Str) : List Str := x.cps.toList.map fun c => (⟨#[c]⟩ : Str)
theorem call_listStr {X : Cx} (hc : X.calm = true) : CallR X (.type "list") (fun xs H Q => ∃ x, xs = [.str x] ∧ x.cps.size ≤ sizeLine ∧ ∀ l, H l = none → Q (.ref l) (upd H l (.lst ((signsS x).map V.str)))) := by
  intro pins s σ H xs us Q I r h
  obtain ⟨x, e, z, q⟩ := h
  subst e
  obtain ⟨u, eu, rx⟩ := vals1 r
  subst eu
  obtain ⟨t, rfl⟩ := rx
  refine call_list_str (I.ok.hd hc) x t (hn := z) fun h' tk acc' c' hkeep hS hacc => ?_
  have ls : ((signsS x).map V.str).length = x.cps.size := by simp [signsS]
  refine ⟨.ref s.heap.objs.size, upd H s.heap.objs.size (.lst ((signsS x).map V.str)), I.laid hkeep (Nat.le_refl _) (show ObjOk X.prog X.w _ _ _ (.lst ((signsS x).map V.str)) from ⟨?_, acc'.toList, c', ?_, ?_⟩), rfl, q _ (I.hok.fresh (Nat.le_refl _))⟩
  · rw [ls]
    exact z
  · have el : acc'.toList.length = acc'.size := by simp
    refine vals_of_at (by rw [ls, el, hacc.1]) fun j x' w h1 h2 => ?_
    obtain ⟨c, u, hc2, rfl⟩ := hacc.2 j w (by rw [← Array.getElem?_toList]; exact h2)
    have e1 : ((signsS x).map V.str)[j]? = some (.str ⟨#[c]⟩) := by
      have e2 : x.cps.toList[j]? = some c := by rw [Array.getElem?_toList]; exact hc2
      unfold signsS
      rw [List.map_map, List.getElem?_map, e2]
      rfl
    rw [e1] at h1
    cases h1
    exact ⟨u, rfl⟩
  · rw [Array.toArray_toList]
    exact hS
abbrev abcR : Str := "abcdefghijklmnopqrstuvwxyz"
def wordsR : List Str := ["web", "way", "folk", "ok", "none", "never", "aa", "ab", "abcdefgh"]
def zR : List Str := (signsS abcR).map fun c => ("z" : Str) ++ c ++ "zzzzzz"
def poolR : List Str := (signsS abcR ++ wordsR) ++ zR
theorem poolR_ok : (∀ x ∈ poolR, nameOkS x = true) ∧ poolR.Nodup ∧ poolR.length = 61 := by
  refine ⟨?_, ?_, ?_⟩
  · decide +kernel
  · decide +kernel
  · decide +kernel
theorem map_eraseIdxR {α β : Type} (f : α → β) : ∀ (xs : List α) (i : Nat), (xs.map f).eraseIdx i = (xs.eraseIdx i).map f
  | [], _ => rfl
  | _ :: _, 0 => rfl
  | x :: xs, i + 1 => by
    show f x :: (xs.map f).eraseIdx i = f x :: (xs.eraseIdx i).map f
    rw [map_eraseIdxR f xs i]
theorem ReelAt.fresh {H H2 : Hp} {a g g0 g' m : Addr} (R : ReelAt H2 a g m) (so : SameO a H H2) (h : g' = g ∨ H2 g' = none) (h0 : g = g0 ∨ H g = none) : g' = g0 ∨ H g' = none := by
  rcases h with rfl | h
  · exact h0
  · exact .inr (R.free so h)
section
variable {P : Program} {w : World} {K : PySem.W.Frag} {mg : Str → Option Value} {base : Heap}
abbrev nRNames : List Str := ["reel", "many", "some", "sign", "k"]
theorem scRNames : FnScope nRNames ["reel", "many"] (defScope sNames) := ⟨rfl, rfl, rfl, by decide +kernel, rfl, by decide +kernel, by decide +kernel⟩
def spRNames : Sp := fun vs H Q _ => ∃ (a g mm : Addr) (m : Nat), vs = [.ref a, .int (m : Int)] ∧ ReelAt H a g mm ∧ 1 ≤ m ∧ m ≤ 61 ∧ ∀ (l : Addr) (names : List Str) (g' : Addr) (H' : Hp), H l = none → SameO a H H' → (g' = g ∨ H g' = none) → H' l = some (.lst (names.map V.str)) → NamesOk names m → (∀ x ∈ names, x ∈ poolR) → names.length = m → ReelAt H' a g' mm → l ≠ a → l ≠ g' → l ≠ mm → Q (.ref l) H'
theorem ok_rnames {f f1 : Addr} {fd fd1 : FuncData} (F : Fun K "_law_names" "_law_names" sNames f fd) (mL : mg "len" = none) (mS : mg "sorted" = none) (mR : mg "range" = none) (mLi : mg "list" = none) (D1 : Def K mg "_law_draw" f1 fd1 ["reel", "many"]) (G1 : FnOk P w K mg base CX0 1 f1 fd1 ["reel", "many"] spRDraw) : FnOk P w K mg base CX0 2 f fd ["reel", "many"] spRNames := by
  refine F.ok scRNames (fun vs H Q E h => ?_) (fun cdv A outer s H vs Q E hr h => ?_)
  · obtain ⟨a, g, mm, m, rfl, _⟩ := h
    rfl
  · obtain ⟨a, g, mm, m, rfl, hB, m1, m61, q⟩ := h
    refine ⟨_, pss_cons (ps_set (i := 2) scRNames.nd rfl (Or.inr rfl) (pe_op op_cat (pe_callTy (call_listStr rfl) (by rfl) mLi (by decide +kernel) (pa_cons pe_str pa_nil)) (pe_lst (pa_cons pe_str (pa_cons pe_str (pa_cons pe_str (pa_cons pe_str (pa_cons pe_str (pa_cons pe_str (pa_cons pe_str (pa_cons pe_str (pa_cons pe_str pa_nil))))))))))))
      (pss_cons (ps_set (i := 2) scRNames.nd rfl (Or.inr rfl) (pe_op op_cat (pv 2) (pe_lc (own := [("sign", 3)]) (g := gName 3) (tt := tYes) (te := tOp rAddS (tOp rAddS (tC (.str "z")) (tVar 3)) (tC (.str "zzzzzz"))) rfl scRNames.nd (pi_str pe_str)
          (blkOk_by (N := nRNames) (sc := defScope sNames) (by decide +kernel)) (fun _ _ _ _ _ => pg_name (i := 3) scRNames.nd rfl (Or.inl rfl)) (fun _ _ _ _ _ => pts_nil) (fun _ _ _ _ _ => pe_op op_add_str (pe_op op_add_str pe_str (pv 3)) pe_str))))
      (pss_one (ps_ret (pe_callB (cr_sortedT hr.units) (by rfl) mS (by decide +kernel) (pa_cons (pe_lc (own := [("k", 4)]) (g := gName 4) (tt := tYes)
        (te := tBM K "list" rPopAt (tVar 2) (tCons (tCall spRDraw [] E0 (tCons (tVar 0) (tCons (tCB (rLenS K) (tCons (tVar 2) tNil)) tNil))) tNil)) rfl scRNames.nd
        (pi_range1 (by rfl) mR (pa_cons (pv 1) pa_nil))
        (blkOk_by (N := nRNames) (sc := defScope sNames) (by decide +kernel))
        (fun _ _ _ _ _ => pg_name (i := 4) scRNames.nd rfl (Or.inl rfl)) (fun _ _ _ _ _ => pts_nil)
        (fun _ _ _ _ _ => pe_bm PySem.F.plainAttrs_list PySem.F.slot_list_pop PySem.F.type_list_pop mt_popAt (pv 2) (pa_cons (pe_call G1 hr (by rfl) D1.at_ D1.kp D1.b .nil pass0 (pa_cons (pv 0) (pa_cons (pe_callB cr_lenS (by rfl) mL (by decide +kernel) (pa_cons (pv 2) pa_nil)) pa_nil))) pa_nil))) pa_nil))))), ?_⟩
    refine ⟨abcR, rfl, by decide, fun l1 nl1 => ?_⟩
    have s1 : Same H (upd H l1 (.lst ((signsS abcR).map V.str))) := same_new nl1
    have h1 : (upd H l1 (.lst ((signsS abcR).map V.str))) l1 = some (.lst ((signsS abcR).map V.str)) := upd_same
    generalize (upd H l1 (.lst ((signsS abcR).map V.str))) = H1 at s1 h1 ⊢
    refine ⟨by show 9 ≤ sizeLine; decide, fun l2 nl2 => ?_⟩
    show rCat _ _ (upd H1 l2 (.lst (wordsR.map V.str))) _
    have s2 := s1.trans (same_new (o := .lst (wordsR.map V.str)) nl2)
    have h2 := same_new (o := .lst (wordsR.map V.str)) nl2 _ _ h1
    have h2' : (upd H1 l2 (.lst (wordsR.map V.str))) l2 = some (.lst (wordsR.map V.str)) := upd_same
    generalize (upd H1 l2 (.lst (wordsR.map V.str))) = H2 at s2 h2 h2' ⊢
    refine ⟨l1, l2, _, _, rfl, rfl, h2, h2', by decide +kernel, fun l3 nl3 => ?_⟩
    rw [← List.map_append]
    have s3 := s2.trans (same_new (o := .lst ((signsS abcR ++ wordsR).map V.str)) nl3)
    have h3 : (upd H2 l3 (.lst ((signsS abcR ++ wordsR).map V.str))) l3 = some (.lst ((signsS abcR ++ wordsR).map V.str)) := upd_same
    generalize (upd H2 l3 (.lst ((signsS abcR ++ wordsR).map V.str))) = H3 at s3 h3 ⊢
    -- and the words that begin alike
    refine ⟨_, rfl, abcR, rfl, fun D1' nD1 => ?_⟩
    refine lc_pure (walk_str (z := abcR)) (fun j => .str (("z" : Str) ++ ⟨#[(abcR.cps[j]?).getD 0]⟩ ++ "zzzzzz")) (by decide) nD1 (fun _ _ => True.intro) (fun i H4 x H5 y => by rw [y.1]; exact Same.refl _) (fun j v H4 H5 Z hj s4 hy k => ?_) fun H4 s4 h4 => ?_
    · obtain ⟨rfl, c, ec, rfl⟩ := hy
      rw [ec] at k
      refine ⟨rfl, _, rfl, _, _, rfl, rfl, ?_, _, _, rfl, rfl, ?_, k _ (Same.refl _)⟩
      · show ("z" : Str).length + 1 ≤ sizeLine
        decide
      · show (("z" : Str) ++ (⟨#[c]⟩ : Str)).length + ("zzzzzz" : Str).length ≤ sizeLine
        rw [Str.length_append]
        show ("z" : Str).length + 1 + ("zzzzzz" : Str).length ≤ sizeLine
        decide
    have ez : ((List.range abcR.cps.size).map fun j => V.str (("z" : Str) ++ ⟨#[(abcR.cps[j]?).getD 0]⟩ ++ "zzzzzz")) = zR.map V.str := by decide +kernel
    rw [ez] at h4
    have h34 := s4 _ _ h3
    have s34 := s3.trans s4
    refine ⟨l3, D1', _, _, rfl, rfl, h34, h4, by decide +kernel, fun l nl => ?_⟩
    rw [← List.map_append]
    rw [show signsS abcR ++ wordsR ++ zR = poolR from rfl]
    have s5 : Same H (upd H4 l (.lst (poolR.map V.str))) := s34.trans (same_new nl)
    have h5 : (upd H4 l (.lst (poolR.map V.str))) l = some (.lst (poolR.map V.str)) := upd_same
    have nlH : H l = none := s34.free nl
    generalize (upd H4 l (.lst (poolR.map V.str))) = H5 at s5 h5 ⊢
    have R5 := hB.on s5
    obtain ⟨la, lg, lm⟩ := hB.ne nlH
    refine ⟨_, rfl, m, rfl, by omega, by omega, fun D nD => ?_⟩
    have nDl : l ≠ D := by
      rintro rfl
      rw [h5] at nD
      cases nD
    have nDH : H D = none := s5.free nD
    obtain ⟨Da', Dg, Dm⟩ := R5.ne nD
    have lp : poolR.length = 61 := poolR_ok.2.2
    have mt : ((m : Int)).toNat = m := by omega
    rw [mt]
    refine lc_it (walk_range (lo := 0) (n := m)) (fun i H2 => ∃ (acc L : List Str) (g2 : Addr), H2 D = some (.lst (acc.map V.str)) ∧ H2 l = some (.lst (L.map V.str)) ∧ (acc ++ L).Perm poolR ∧ acc.length = i ∧ ReelAt H2 a g2 mm ∧ l ≠ g2 ∧ D ≠ g2 ∧ (g2 = g ∨ H g2 = none) ∧ SameO a H H2)
      ⟨[], poolR, g, upd_same, by rw [upd_ne nDl, h5], .refl _, rfl, R5.new nD, lg, Dg, .inl rfl, sameO_new (SameO.of s5) nDH⟩ (fun _ _ _ _ => True.intro) ?_ ?_
    · rintro i x H2 H3 hi ⟨acc, L, g2, hacc, hL, pm, lac, R2, lg2, Dg2, fr2, so⟩ ⟨rfl, rfl⟩
      have len : acc.length + L.length = 61 := by
        have := pm.length_eq
        rwa [List.length_append, lp] at this
      refine ⟨rfl, _, rfl, .inl ⟨rfl, _, SqL.of hL⟩, _, rfl, _, rfl, l, _, rfl, .inl (SqL.of hL), ?_⟩
      refine ⟨a, g2, mm, _, rfl, R2, by rw [List.length_map]; omega, by rw [List.length_map]; omega, fun r g3 H4 r1 so4 fr4 R4 => ?_⟩
      rw [List.length_map] at r1
      have hL4 := so4 l _ la hL
      have hacc4 := so4 D _ Da' hacc
      have lt : r < L.length := by omega
      have eL : (L.map V.str)[r]? = some (.str L[r]) := by rw [List.getElem?_map, List.getElem?_eq_getElem lt]; rfl
      have lg3 : l ≠ g3 := by
        rcases fr4 with rfl | h
        · exact lg2
        · rintro rfl
          rw [hL] at h
          cases h
      have Dg3 : D ≠ g3 := by
        rcases fr4 with rfl | h
        · exact Dg2
        · rintro rfl
          rw [hacc] at h
          cases h
      refine ⟨l, L.map V.str, (r : Int), r, .str L[r], rfl, rfl, hL4, by omega, by omega, seqIx_nat (by omega) (by rw [List.length_map]; exact r1), eL, acc.map V.str, ?_, ?_, acc ++ [L[r]], L.eraseIdx r, g3, ?_, ?_, ?_, ?_, ?_, lg3, Dg3, R2.fresh so fr4 fr2, ?_⟩
      · rw [upd_ne (Ne.symm nDl)]
        exact hacc4
      · rw [List.length_map]
        exact Nat.lt_of_lt_of_le (show acc.length < 20000 by omega) (by decide)
      · rw [upd_same, List.map_append]
        rfl
      · rw [upd_ne nDl, upd_same, map_eraseIdxR]
      · rw [List.append_assoc]
        exact ((eraseIdx_perm (List.getElem?_eq_getElem lt)).append_left acc).trans pm
      · simp [lac]
      · exact (R4.up la lg3 lm).up Da' Dg3 Dm
      · exact sameO_new (sameO_new (so.trans so4) nlH) nDH
    · rintro H2 ⟨acc, L, g2, hacc, hL, pm, lac, R2, lg2, Dg2, fr2, so⟩
      have nd : acc.Nodup := by
        have := pm.nodup_iff.mpr poolR_ok.2.1
        rw [List.nodup_append] at this
        exact this.1
      have okn : ∀ x ∈ acc, nameOkS x = true := fun x hx => poolR_ok.1 x (pm.mem_iff.mp (List.mem_append_left _ hx))
      have pr := sortB_perm PyData.str acc
      refine ⟨D, acc, rfl, SqL.of hacc, fun p np => ?_⟩
      have lenm : (sortB PyData.str acc).length = m := by rw [pr.length_eq]; exact lac
      obtain ⟨pa, pg, pm'⟩ := R2.ne np
      exact q p _ g2 _ (R2.free so np) (sameO_new so (R2.free so np)) fr2 upd_same ⟨fun x hx => okn x (pr.mem_iff.mp hx), by omega, by omega, sortS_rise nd, pr.nodup_iff.mpr nd, sortS_pw nd⟩ (fun x hx => pm.mem_iff.mp (List.mem_append_left _ (pr.mem_iff.mp hx))) lenm (R2.new np) pa pg pm'
end
end Cry
/-! The later stages' webs. -/
namespace Cry
open PySem PySem.Spec PyProof.Rows L2
/-- a dict from pairs, each of which is True -/
def entsB (ps : List (Str × Str)) : List (List Key × V) := ps.map fun p => (pK p, V.bl true)
def putB (ps : List (Str × Str)) (y : Str × Str) : List (Str × Str) := if y ∈ ps then ps else ps ++ [y]
theorem entsB_any (ps : List (Str × Str)) (y : Str × Str) : ((entsB ps).any fun kv => decide (kv.1 = pK y)) = decide (y ∈ ps) := by
  unfold entsB
  rw [List.any_map, Bool.eq_iff_iff, List.any_eq_true, decide_eq_true_iff]
  constructor
  · rintro ⟨p, hp, e⟩
    have e2 : pK p = pK y := of_decide_eq_true e
    rw [← pK_inj e2]
    exact hp
  · exact fun h => ⟨y, h, decide_eq_true rfl⟩
theorem putB_ents (ps : List (Str × Str)) (y : Str × Str) : putK (entsB ps) (pK y) (.bl true) = entsB (putB ps y) := by
  unfold putK putB
  rw [entsB_any]
  by_cases h : y ∈ ps
  · rw [decide_eq_true h, if_pos rfl, if_pos h]
    unfold entsB
    rw [List.map_map]
    refine List.map_congr_left fun p _ => ?_
    show (if pK p = pK y then (pK p, V.bl true) else (pK p, V.bl true)) = (pK p, V.bl true)
    split <;> rfl
  · rw [decide_eq_false h, if_neg (by simp), if_neg h]
    unfold entsB
    rw [List.map_append]
    rfl
theorem putB_len (ps : List (Str × Str)) (y : Str × Str) : (putB ps y).length ≤ ps.length + 1 := by
  unfold putB
  split
  · omega
  · rw [List.length_append]
    exact Nat.le_refl _
structure PairsOk (names : List Str) (ps : List (Str × Str)) : Prop where
  ok : ∀ p ∈ ps, p.1 ∈ names ∧ p.2 ∈ names ∧ ltS p.1 p.2 = true
  nd : ps.Nodup
theorem PairsOk.put {names : List Str} {ps : List (Str × Str)} (h : PairsOk names ps) {y : Str × Str} (h1 : y.1 ∈ names) (h2 : y.2 ∈ names) (h3 : ltS y.1 y.2 = true) : PairsOk names (putB ps y) := by
  unfold putB
  split
  · exact h
  · rename_i hn
    refine ⟨fun e he => ?_, ?_⟩
    · rcases List.mem_append.mp he with k | k
      · exact h.ok e k
      · rw [List.mem_singleton.mp k]
        exact ⟨h1, h2, h3⟩
    · refine List.nodup_append.mpr ⟨h.nd, by simp, fun a ha b hb => ?_⟩
      rintro rfl
      rw [List.mem_singleton.mp hb] at ha
      exact hn ha
/-- ways that stand between pairs in their order -/
theorem web_of_pairs {names : List Str} {ps : List (Str × Str)} {ways : List Way} {m : Nat} (N : NamesOk names m) (hm : m ≤ 60) (h : PairsOk names ps) (e : (ways.map fun y => (y.1, y.2.1)) = sortB pD ps) (hb : ∀ y ∈ ways, 1 ≤ y.2.2 ∧ y.2.2 ≤ 1000000000000) (hl : ps.length ≤ 150) : WebOk names ways ∧ PairsNd ways ∧ ways.length = ps.length := by
  have len : ways.length = ps.length := by
    have := congrArg List.length e
    rwa [List.length_map, (sortB_perm _ _).length_eq] at this
  have mem : ∀ y ∈ ways, y.1 ∈ names ∧ y.2.1 ∈ names ∧ ltS y.1 y.2.1 = true := fun y hy => by
    have h1 : (y.1, y.2.1) ∈ ways.map fun y => (y.1, y.2.1) := List.mem_map.mpr ⟨y, hy, rfl⟩
    rw [e] at h1
    exact h.ok _ ((sortB_perm _ _).mem_iff.mp h1)
  have inN : ∀ x ∈ names, inNames x names = true := fun x hx => by
    unfold inNames inV
    refine List.any_eq_true.mpr ⟨.str x, List.mem_map.mpr ⟨x, hx, rfl⟩, ?_⟩
    show decide (x = x) = true
    exact decide_eq_true rfl
  refine ⟨⟨N.ok, N.one, Nat.le_trans N.most hm, N.up, by omega, fun y hy => ?_, ?_⟩, ?_, len⟩
  · have k := mem y hy
    have b := hb y hy
    exact ⟨N.ok _ k.1, N.ok _ k.2.1, b.1, b.2, inN _ k.1, inN _ k.2.1, k.2.2⟩
  · have e2 : ways.map pairD = (sortB pD ps).map pD := by
      rw [← e, List.map_map]
      rfl
    rw [e2]
    refine ord_pair.rise ((sortB_perm _ _).nodup_iff.mpr h.nd) ?_
    exact PySem.W.sort_pairwise (PySem.W.sortLe_total _ _ _) _
  · unfold PairsNd
    rw [e]
    exact (sortB_perm _ _).nodup_iff.mpr h.nd
theorem WebAt.apartR {H : Hp} {T a g m : Addr} {names : List Str} {ways : List Way} (hw : WebAt H T names ways) (R : ReelAt H a g m) (ne : names ≠ []) :
    ∃ F W ws, H T = some (.tup [.ref F, .ref W]) ∧ H F = some (.lst (names.map V.str)) ∧ H W = some (.lst ws) ∧ Ims H ws (ways.map wayD3) ∧ T ≠ a ∧ F ≠ a ∧ W ≠ a := by
  obtain ⟨F, W, ws, hT, hF, hW, hI⟩ := hw
  obtain ⟨gs, ms, cnt, stir, ha, _⟩ := R
  refine ⟨F, W, ws, hT, hF, hW, hI, ?_, ?_, ?_⟩
  · rintro rfl
    rw [ha] at hT
    cases hT
  · rintro rfl
    rw [ha] at hF
    cases names with
    | nil => exact ne rfl
    | cons x r => cases hF
  · rintro rfl
    rw [ha] at hW
    cases hW
    match ways, hI with
    | [], h => cases h
    | [_], h =>
      cases h with
      | cons _ t => cases t
    | [_, _], h =>
      cases h with
      | cons _ t =>
        cases t with
        | cons _ t => cases t
    | _ :: _ :: y :: _, h =>
      cases h with
      | cons _ t =>
        cases t with
        | cons _ t =>
          cases t with
          | cons h1 _ => cases h1
theorem WebAt.soR {H H' : Hp} {T a g m : Addr} {names : List Str} {ways : List Way} (hw : WebAt H T names ways) (R : ReelAt H a g m) (so : SameO a H H') (ne : names ≠ []) : WebAt H' T names ways := by
  obtain ⟨F, W, ws, hT, hF, hW, hI, n1, n2, n3⟩ := hw.apartR R ne
  exact ⟨F, W, ws, so _ _ n1 hT, so _ _ n2 hF, so _ _ n3 hW, hI.on (R.ts so)⟩
/-- midway: the names at Nl, the pairs at D -/
structure RMid (H0 : Hp) (a g0 mm Nl D : Addr) (names : List Str) (H : Hp) (g : Addr) (ps : List (Str × Str)) : Prop where
  so : SameO a H0 H
  rl : ReelAt H a g mm
  fr : g = g0 ∨ H0 g = none
  nl : H Nl = some (.lst (names.map V.str))
  dt : H D = some (.dT (entsB ps))
  ok : PairsOk names ps
  frD : H0 D = none
  ne : Nl ≠ D
  da : D ≠ a
  na : Nl ≠ a
theorem RMid.draw {H0 H H' : Hp} {a g0 mm Nl D g g' : Addr} {names : List Str} {ps : List (Str × Str)} (m : RMid H0 a g0 mm Nl D names H g ps) (so : SameO a H H') (fr : g' = g ∨ H g' = none) (R : ReelAt H' a g' mm) : RMid H0 a g0 mm Nl D names H' g' ps :=
  ⟨m.so.trans so, R, m.rl.fresh m.so fr m.fr, so _ _ m.na m.nl, so _ _ m.da m.dt, m.ok, m.frD, m.ne, m.da, m.na⟩
theorem RMid.on {H0 H H' : Hp} {a g0 mm Nl D g : Addr} {names : List Str} {ps : List (Str × Str)} (m : RMid H0 a g0 mm Nl D names H g ps) (s : Same H H') : RMid H0 a g0 mm Nl D names H' g ps :=
  ⟨m.so.trans (SameO.of s), m.rl.on s, m.fr, s _ _ m.nl, s _ _ m.dt, m.ok, m.frD, m.ne, m.da, m.na⟩
theorem RMid.put {H0 H : Hp} {a g0 mm Nl D g : Addr} {names : List Str} {ps : List (Str × Str)} (m : RMid H0 a g0 mm Nl D names H g ps) {y : Str × Str} (h1 : y.1 ∈ names) (h2 : y.2 ∈ names) (h3 : ltS y.1 y.2 = true) :
    RMid H0 a g0 mm Nl D names (upd H D (.dT (putK (entsB ps) (pK y) (.bl true)))) g (putB ps y) := by
  obtain ⟨gs, ms, cnt, stir, ha, hg, hm, _⟩ := id m.rl
  have dg : D ≠ g := by
    rintro rfl
    have := m.dt
    rw [hg] at this
    cases this
  have dm : D ≠ mm := by
    rintro rfl
    have := m.dt
    rw [hm] at this
    cases this
  rw [putB_ents]
  exact ⟨sameO_new m.so m.frD, m.rl.up m.da dg dm, m.fr, by rw [upd_ne m.ne]; exact m.nl, upd_same, m.ok.put h1 h2 h3, m.frD, m.ne, m.da, m.na⟩
theorem RMid.up {H0 H : Hp} {a g0 mm Nl D g p : Addr} {o : HO} {names : List Str} {ps : List (Str × Str)} (m : RMid H0 a g0 mm Nl D names H g ps) (h0 : H0 p = none) (pD : p ≠ D) (pN : p ≠ Nl) (pa : p ≠ a) (pg : p ≠ g) (pm : p ≠ mm) : RMid H0 a g0 mm Nl D names (upd H p o) g ps :=
  ⟨sameO_new m.so h0, m.rl.up pa pg pm, m.fr, by rw [upd_ne (Ne.symm pN)]; exact m.nl, by rw [upd_ne (Ne.symm pD)]; exact m.dt, m.ok, m.frD, m.ne, m.da, m.na⟩
end Cry
/-! The later stages' webs: the def. -/
namespace Cry
open PySem PySem.Spec PyProof.Rows L2
theorem seq_cut {T u : L2.TS} {D : Ends} {σ : Slots} {H : Hp} (R : Slots → Hp → Prop) (rest : ∀ σ' H', R σ' H' → u D σ' H') (h : (∀ σ' H', R σ' H' → u D σ' H') → T { D with nx := u D } σ H) : tSeq T u D σ H := h rest
theorem name_o {i : Nat} {v : V} {σ : Slots} {H : Hp} {K : Slots → Hp → Prop} (h : K (σ.set i (some v)) H) : gName i v σ H K := h
theorem if_k {σ : Slots} {H : Hp} {c : Bool} {ta : TE} {x : V} {K : VK} (R : Hp → Int → Prop) (rest : ∀ X H', R H' X → K (.int X) H') (ha : c = true → (∀ X H', R H' X → K (.int X) H') → ta σ H K) (hb : c = false → (∀ X H', R H' X → K (.int X) H') → K x H) : if c = true then ta σ H K else tC x σ H K := by
  cases c with
  | true => exact ha rfl rest
  | false => exact hb rfl rest
theorem pick4R {x y z u : Int} {r : Nat} (h : r < 4) : ∃ v, [V.int x, V.int y, V.int z, V.int u][r]? = some (.int v) ∧ (v = x ∨ v = y ∨ v = z ∨ v = u) := by
  have c : r = 0 ∨ r = 1 ∨ r = 2 ∨ r = 3 := by omega
  rcases c with rfl | rfl | rfl | rfl
  · exact ⟨x, rfl, .inl rfl⟩
  · exact ⟨y, rfl, .inr (.inl rfl)⟩
  · exact ⟨z, rfl, .inr (.inr (.inl rfl))⟩
  · exact ⟨u, rfl, .inr (.inr (.inr rfl))⟩
section
variable {P : Program} {w : World} {K : PySem.W.Frag} {mg : Str → Option Value} {base : Heap}
abbrev nRWeb : List Str := ["reel", "most", "wide", "folk", "shape", "pairs", "at", "other", "turn", "one", "ways"]
theorem scRWeb : FnScope nRWeb ["reel", "most", "wide"] (defScope sWeb) := ⟨rfl, rfl, rfl, by decide +kernel, rfl, by decide +kernel, by decide +kernel⟩
def spRWeb : Sp := fun vs H Q _ => ∃ (a g mm : Addr) (m : Nat) (wd : Int), vs = [.ref a, .int (m : Int), .int wd] ∧ ReelAt H a g mm ∧ 1 ≤ m ∧ m ≤ 60 ∧ 1 ≤ wd ∧ wd ≤ 1000000000000 ∧
  ∀ (T : Addr) (names : List Str) (ways : List Way) (g' : Addr) (H' : Hp), H T = none → SameO a H H' → (g' = g ∨ H g' = none) → WebAt H' T names ways → WebOk names ways → PairsNd ways → (∀ x ∈ names, x ∈ poolR) → names.length ≤ m → ways.length ≤ 2 * m + 2 → ReelAt H' a g' mm → Q (.ref T) H'
theorem ok_rweb {f f1 f2 : Addr} {fd fd1 fd2 : FuncData} (F : Fun K "_law_web" "_law_web" sWeb f fd) (mL : mg "len" = none) (mR : mg "range" = none) (mS : mg "sorted" = none) (mN : mg "min" = none) (mX : mg "max" = none) (D1 : Def K mg "_law_draw" f1 fd1 ["reel", "many"]) (G1 : FnOk P w K mg base CX0 1 f1 fd1 ["reel", "many"] spRDraw)
    (D2 : Def K mg "_law_names" f2 fd2 ["reel", "many"]) (G2 : FnOk P w K mg base CX0 2 f2 fd2 ["reel", "many"] spRNames) : FnOk P w K mg base CX0 3 f fd ["reel", "most", "wide"] spRWeb := by
  refine F.ok scRWeb (fun vs H Q E h => ?_) (fun cdv A outer s H vs Q E hr h => ?_)
  · obtain ⟨a, g, mm, m, wd, rfl, _⟩ := h
    rfl
  · obtain ⟨a, g, mm, m, wd, rfl, hB, m1, m60, w1, w12, q⟩ := h
    have hr2 := hr
    have hr1 := hr.mono (show 1 ≤ 2 by decide)
    refine ⟨_, pss_cons (ps_set (i := 3) scRWeb.nd rfl (Or.inl rfl) (pe_call G2 hr2 (by rfl) D2.at_ D2.kp D2.b .nil pass0 (pa_cons (pv 0) (pa_cons (pe_op op_add pe_int (pe_call G1 hr1 (by rfl) D1.at_ D1.kp D1.b .nil pass0 (pa_cons (pv 0) (pa_cons (pv 1) pa_nil)))) pa_nil))))
    (pss_cons (ps_set (i := 4) scRWeb.nd rfl (Or.inl rfl) (pe_call G1 hr1 (by rfl) D1.at_ D1.kp D1.b .nil pass0 (pa_cons (pv 0) (pa_cons pe_int pa_nil))))
    (pss_cons (ps_set (i := 5) scRWeb.nd rfl (Or.inl rfl) pe_dnewT)
    (pss_cons (ps_for PassesOwn.never rfl (pi_range2 (by rfl) mR (pa_cons pe_int (pa_cons (pe_callB cr_lenS (by rfl) mL (by decide +kernel) (pa_cons (pv 3) pa_nil)) pa_nil))) (pg_name (i := 6) scRWeb.nd rfl (Or.inl rfl)) (pss_cons (ps_set (i := 7) scRWeb.nd rfl (Or.inl rfl) (pe_ix ix_list (pe_lst (pa_cons (pe_op op_sub (pv 6) pe_int) (pa_cons (pe_call G1 hr1 (by rfl) D1.at_ D1.kp D1.b .nil pass0 (pa_cons (pv 0) (pa_cons (pv 6) pa_nil))) (pa_cons (pe_callB (call_max2 rfl) (by rfl) mX (by decide +kernel) (pa_cons pe_int (pa_cons (pe_op op_sub (pe_op op_sub (pv 6) pe_int) (pe_call G1 hr1 (by rfl) D1.at_ D1.kp D1.b .nil pass0 (pa_cons (pv 0) (pa_cons pe_int pa_nil)))) pa_nil))) (pa_cons (pe_op op_sub (pv 6) pe_int) pa_nil))))) (pv 4) (fun _ _ => rfl)))
        (pss_one (ps_if (pt_cmpR op_gt (pe_call G1 hr1 (by rfl) D1.at_ D1.kp D1.b .nil pass0 (pa_cons (pv 0) (pa_cons pe_int pa_nil))) pe_int (nomark _)) (pss_one (ps_dput (u1 hr.units) (pv 5) (pe_tup (pa_cons (pe_ix ix_list (pv 3) (pv 7) (fun _ _ => rfl)) (pa_cons (pe_ix ix_list (pv 3) (pv 6) (fun _ _ => rfl)) pa_nil))) pe_bl (by rfl))) pss_nil))))
    (pss_cons (ps_for PassesOwn.never rfl (pi_range1 (by rfl) mR (pa_cons (pe_call G1 hr1 (by rfl) D1.at_ D1.kp D1.b .nil pass0 (pa_cons (pv 0) (pa_cons (pe_ifExp (pt_cmpR op_gt (pe_callB cr_lenS (by rfl) mL (by decide +kernel) (pa_cons (pv 3) pa_nil)) pe_int (nomark _)) (pe_ix ix_list (pe_lst (pa_cons pe_int (pa_cons pe_int (pa_cons (pe_op op_add pe_int (pe_callB cr_lenS (by rfl) mL (by decide +kernel) (pa_cons (pv 3) pa_nil))) (pa_cons pe_int pa_nil))))) (pv 4) (fun _ _ => rfl)) pe_int) pa_nil))) pa_nil)) (pg_name (i := 8) scRWeb.nd rfl (Or.inl rfl)) (pss_cons (ps_par rfl scRWeb.nd (i := 9) (j := 7) rfl rfl (by decide) rfl rfl (pa_cons (pe_call G1 hr1 (by rfl) D1.at_ D1.kp D1.b .nil pass0 (pa_cons (pv 0) (pa_cons (pe_callB cr_lenS (by rfl) mL (by decide +kernel) (pa_cons (pv 3) pa_nil)) pa_nil))) (pa_cons (pe_call G1 hr1 (by rfl) D1.at_ D1.kp D1.b .nil pass0 (pa_cons (pv 0) (pa_cons (pe_callB cr_lenS (by rfl) mL (by decide +kernel) (pa_cons (pv 3) pa_nil)) pa_nil))) pa_nil)) (by rfl))
        (pss_one (ps_if (pt_cmpR op_ne (pv 9) (pv 7) (nomark _)) (pss_one (ps_dput (u1 hr.units) (pv 5) (pe_tup (pa_cons (pe_ix ix_list (pv 3) (pe_callB (call_min2 rfl) (by rfl) mN (by decide +kernel) (pa_cons (pv 9) (pa_cons (pv 7) pa_nil))) (fun _ _ => rfl)) (pa_cons (pe_ix ix_list (pv 3) (pe_callB (call_max2 rfl) (by rfl) mX (by decide +kernel) (pa_cons (pv 9) (pa_cons (pv 7) pa_nil))) (fun _ _ => rfl)) pa_nil))) pe_bl (by rfl))) pss_nil))))
    (pss_cons (ps_if (PW.pt (pw_and (pt_cmpR op_eq (pv 4) pe_int (nomark _)) (pw_and1 (pt_cmpR op_gt (pe_callB cr_lenS (by rfl) mL (by decide +kernel) (pa_cons (pv 3) pa_nil)) pe_int (nomark _))))) (pss_one (ps_dput (u1 hr.units) (pv 5) (pe_tup (pa_cons (pe_ix ix_list (pv 3) pe_int (fun _ _ => rfl)) (pa_cons (pe_ix ix_list (pv 3) (pe_un un_neg pe_int) (fun _ _ => rfl)) pa_nil))) pe_bl (by rfl))) pss_nil)
    (pss_cons (ps_set (i := 10) scRWeb.nd rfl (Or.inl rfl) (pe_lst pa_nil))
    (pss_cons (ps_for PassesOwn.never rfl (pi_list (pe_callB (cr_sortedDT rfl hr.units) (by rfl) mS (by decide +kernel) (pa_cons (pv 5) pa_nil))) (pg_tup rfl (pgs_cons (pg_name (i := 9) scRWeb.nd rfl (Or.inl rfl)) (pgs_cons (pg_name (i := 7) scRWeb.nd rfl (Or.inl rfl)) pgs_nil))) (pss_one (ps_expr (pe_bm PySem.F.plainAttrs_list PySem.F.slot_list_append PySem.F.type_list_append mt_append (pv 10) (pa_cons (pe_tup (pa_cons (pv 9) (pa_cons (pv 7) (pa_cons (pe_op op_add pe_int (pe_call G1 hr1 (by rfl) D1.at_ D1.kp D1.b .nil pass0 (pa_cons (pv 0) (pa_cons (pe_ix ix_list (pe_lst (pa_cons pe_int (pa_cons pe_int (pa_cons pe_int (pa_cons (pv 2) pa_nil))))) (pe_call G1 hr1 (by rfl) D1.at_ D1.kp D1.b .nil pass0 (pa_cons (pv 0) (pa_cons pe_int pa_nil))) (fun _ _ => rfl)) pa_nil)))) pa_nil)))) pa_nil)))))
    (pss_one (ps_ret (pe_tup (pa_cons (pv 3) (pa_cons (pv 10) pa_nil)))))))))))), ?_⟩
    refine ⟨_, rfl, _, rfl, _, rfl, a, g, mm, m, rfl, hB, by omega, by omega, fun r g1 H1 r1 so1 fr1 R1 => ⟨_, _, rfl, rfl, ?_⟩⟩
    refine ⟨a, g1, mm, r + 1, ?_, R1, by omega, by omega, fun Nl names g2 H2 nNl so2 fr2 hNl NO inP lnm R2 nNa nNg nNm => ?_⟩
    · show [V.ref a, V.int (1 + (r : Int))] = [V.ref a, V.int ((r + 1 : Nat) : Int)]
      rw [show (1 : Int) + (r : Int) = ((r + 1 : Nat) : Int) by omega]
    have so12 : SameO a H H2 := so1.trans so2
    have fr12 : g2 = g ∨ H g2 = none := R1.fresh so1 fr2 fr1
    -- shape
    refine ⟨_, rfl, a, g2, mm, 4, rfl, R2, by decide, by decide, fun sh g3 H3 shl so3 fr3 R3 => ?_⟩
    have so13 := so12.trans so3
    have hNl3 := so3 _ _ nNa hNl
    have fr13 : g3 = g ∨ H g3 = none := R2.fresh so12 fr3 fr12
    intro D nD
    have nND : Nl ≠ D := by
      rintro rfl
      rw [nD] at hNl3
      cases hNl3
    have mid0 : RMid H a g mm Nl D names (upd H3 D (.dT (entsB []))) g3 [] :=
      ⟨sameO_new so13 (R3.free so13 nD), R3.new nD, fr13, by rw [upd_ne nND]; exact hNl3, upd_same, ⟨(fun e he => nomatch he), List.nodup_nil⟩, R3.free so13 nD, nND, (R3.ne nD).1, nNa⟩
    have lnV : (names.map V.str).length = names.length := List.length_map ..
    have len1 := NO.one
    have len60 : names.length ≤ 60 := by omega
    have name_at : ∀ {j : Nat} (h : j < names.length), (names.map V.str)[j]? = some (.str names[j]) := fun {j} h => by
      rw [List.getElem?_map, List.getElem?_eq_getElem h]
      rfl
    have lt_of : ∀ {j1 j2 : Nat} (h : j1 < j2) (h2 : j2 < names.length), ltS (names[j1]'(by omega)) names[j2] = true := fun {j1 j2} h h2 => List.pairwise_iff_getElem.mp NO.pw j1 j2 (by omega) h2 h
    have lE : ∀ ps : List (Str × Str), (entsB ps).length = ps.length := fun ps => List.length_map ..
    refine name_o ?_
    dsimp only
    refine seq_cut (fun σ' H' => ∃ (u6 u7 : Option V) (g' : Addr) (ps : List (Str × Str)), σ' = [some (.ref a), some (.int (m : Int)), some (.int wd), some (.ref Nl), some (.int (sh : Int)), some (.ref D), u6, u7, none, none, none] ∧ RMid H a g mm Nl D names H' g' ps ∧ ps.length < names.length) (fun σ' H' hR => ?_) (fun rest => ?_)
    · obtain ⟨u6, u7, g4, ps, rfl, mid, hl⟩ := hR
      -- more ways
      refine seq_cut (fun σ' H' => ∃ (u6 u7 u8 u9 : Option V) (g' : Addr) (ps : List (Str × Str)), σ' = [some (.ref a), some (.int (m : Int)), some (.int wd), some (.ref Nl), some (.int (sh : Int)), some (.ref D), u6, u7, u8, u9, none] ∧ RMid H a g mm Nl D names H' g' ps ∧ ps.length < 2 * names.length + 2) (fun σ' H' hR => ?_) (fun rest => ?_)
      · obtain ⟨u6, u7, u8, u9, g5, ps, rfl, mid, hl⟩ := hR
        -- the first one and the last one
        refine seq_cut (fun σ' H' => ∃ (u6 u7 u8 u9 : Option V) (g' : Addr) (ps : List (Str × Str)), σ' = [some (.ref a), some (.int (m : Int)), some (.int wd), some (.ref Nl), some (.int (sh : Int)), some (.ref D), u6, u7, u8, u9, none] ∧ RMid H a g mm Nl D names H' g' ps ∧ ps.length ≤ 2 * names.length + 2) (fun σ' H' hR => ?_) (fun rest => ?_)
        · obtain ⟨u6, u7, u8, u9, g5, ps, rfl, mid, hl⟩ := hR
          refine ⟨Nat.zero_le _, fun W nW => ?_⟩
          obtain ⟨Wa, Wg5, Wm⟩ := mid.rl.ne nW
          have WD : W ≠ D := by
            rintro rfl
            have := mid.dt
            rw [nW] at this
            cases this
          have WN : W ≠ Nl := by
            rintro rfl
            have := mid.nl
            rw [nW] at this
            cases this
          have frW : H W = none := mid.rl.free mid.so nW
          have midW := mid.on (same_new (o := .lst []) nW)
          have hW0 : (upd H' W (.lst [])) W = some (.lst []) := upd_same
          show tSeq _ _ _ _ (upd H' W (.lst []))
          generalize (upd H' W (.lst [])) = HW at midW hW0 ⊢
          have lS : (sortB pD ps).length = ps.length := (sortB_perm _ _).length_eq
          refine ⟨_, rfl, D, _, ps, rfl, midW.dt, by unfold entsB; rw [List.map_map]; rfl, fun S us nS im => ?_⟩
          have lu := im.length
          rw [List.length_map, lS] at lu
          have midS := midW.on (same_new (o := .lst us) nS)
          have Sa := (midW.rl.ne nS).1
          have WS : W ≠ S := by
            rintro rfl
            rw [hW0] at nS
            cases nS
          have imS : Ims (upd HW S (.lst us)) us ((sortB pD ps).map pD) := im.on (TS.new nS)
          refine ⟨S, rfl, ⟨us, SqL.of upd_same⟩, ?_⟩
          refine for_it (walk_list (K := K) (a := S) (xs := us)) (fun i σ H2 => ∃ (u6 u7 u8 u9 : Option V) (g' : Addr) (acc : List Way) (ws : List V), σ = [some (.ref a), some (.int (m : Int)), some (.int wd), some (.ref Nl), some (.int (sh : Int)), some (.ref D), u6, u7, u8, u9, some (.ref W)] ∧ RMid H a g mm Nl D names H2 g' ps ∧ H2 W = some (.lst ws) ∧ Ims H2 ws (acc.map wayD3) ∧ (acc.map fun y => (y.1, y.2.1)) = (sortB pD ps).take i ∧ (∀ y ∈ acc, 1 ≤ y.2.2 ∧ y.2.2 ≤ 1000000000000) ∧ W ≠ g' ∧ H2 S = some (.lst us) ∧ Ims H2 us ((sortB pD ps).map pD))
            ⟨_, _, _, _, g5, [], [], rfl, midS, same_new nS _ _ hW0, .nil, rfl, (fun y hy => nomatch hy), Wg5, upd_same, imS⟩ (fun i σ H2 _ ⟨_, _, _, _, _, _, _, _, _, _, _, _, _, _, h, _⟩ => SqL.of h) ?_ ?_
          · rintro i x σ H7 H8 hi ⟨u6, u7, u8, u9, g6, acc, ws, rfl, mid, hW, iW, eacc, bnd, Wg, hS, imU⟩ ⟨rfl, ex⟩
            obtain ⟨p, ep⟩ : ∃ p, (sortB pD ps)[i]? = some p := ⟨_, List.getElem?_eq_getElem (by omega)⟩
            obtain ⟨d, ed, imd⟩ := Ims.at imU ex
            rw [List.getElem?_map, ep] at ed
            cases ed
            obtain ⟨b, xs, rfl, hb, hxs⟩ : ∃ b xs, x = .ref b ∧ H8 b = some (.tup xs) ∧ Ims H8 xs [.str p.1, .str p.2] := by
              cases imd with
              | tup h s => exact ⟨_, _, rfl, h, s⟩
            obtain rfl : xs = [.str p.1, .str p.2] := by
              cases hxs with
              | cons h1 t1 =>
                cases t1 with
                | cons h2 t2 =>
                  cases t2
                  cases h1
                  cases h2
                  rfl
            refine ⟨b, _, rfl, SqT.of hb, rfl, _, _, rfl, _, _, rfl, rfl, ?_⟩
            have lws := iW.length
            rw [List.length_map] at lws
            have lacc : acc.length ≤ i := by
              have := congrArg List.length eacc
              rw [List.length_map, List.length_take] at this
              omega
            refine ⟨_, rfl, .inl ⟨rfl, _, SqL.of hW⟩, _, rfl, _, rfl, _, rfl, _, rfl, by show 4 ≤ sizeLine; decide, fun p2 np2 => ?_⟩
            have mid9 := mid.on (same_new (o := .lst [.int 1, .int 2, .int 5, .int wd]) np2)
            have p2a := (mid.rl.ne np2).1
            refine ⟨_, rfl, a, g6, mm, 4, rfl, mid9.rl, by decide, by decide, fun r5 g7 H9 r5l so9 fr9 R9 => ?_⟩
            have mid10 := mid9.draw so9 fr9 R9
            obtain ⟨X, eX, cX⟩ := pick4R (x := 1) (y := 2) (z := 5) (u := wd) (r := r5) (by omega)
            refine ⟨p2, _, _, _, rfl, rfl, SqL.of (so9 _ _ p2a upd_same), atI_nat eX, a, g7, mm, X, rfl, mid10.rl, by omega, by omega, fun r6 g8 H10 r6l so10 fr10 R10 => ?_⟩
            have mid11 := mid10.draw so10 fr10 R10
            refine ⟨_, _, rfl, rfl, by show 3 ≤ sizeLine; decide, fun y ny => ?_⟩
            have mid12 := mid11.on (same_new (o := .tup [.str p.1, .str p.2, .int (1 + (r6 : Int))]) ny)
            have so712 : SameO a H8 (upd H10 y (.tup [.str p.1, .str p.2, .int (1 + (r6 : Int))])) := (((SameO.of (same_new np2)).trans so9).trans so10).trans (SameO.of (same_new ny))
            have ts712 := mid.rl.ts so712
            have hy12 : (upd H10 y (.tup [.str p.1, .str p.2, .int (1 + (r6 : Int))])) y = some (.tup [.str p.1, .str p.2, .int (1 + (r6 : Int))]) := upd_same
            have hW12 := so712 _ _ Wa hW
            have hS12 := so712 _ _ Sa hS
            have Wg8 : W ≠ g8 := by
              have h7 : W ≠ g7 := by
                rcases fr9 with rfl | h
                · exact Wg
                · rintro rfl
                  rw [same_new np2 _ _ hW] at h
                  cases h
              rcases fr10 with rfl | h
              · exact h7
              · rintro rfl
                rw [so9 _ _ Wa (same_new np2 _ _ hW)] at h
                cases h
            generalize (upd H10 y (.tup [.str p.1, .str p.2, .int (1 + (r6 : Int))])) = H12 at mid12 ts712 hy12 hW12 hS12 ⊢
            refine ⟨W, ws, _, rfl, rfl, hW12, ?_, ?_⟩
            · exact Nat.lt_of_lt_of_le (show ws.length < 1000 by omega) (by decide)
            · have tsW : TS H12 (upd H12 W (.lst (ws ++ [.ref y]))) := TS.lst hW12
              refine ⟨_, _, _, _, g8, acc ++ [(p.1, p.2, 1 + (r6 : Int))], ws ++ [.ref y], rfl, mid12.up frW WD WN Wa Wg8 Wm, upd_same, ?_, ?_, ?_, Wg8, ?_, (imU.on ts712).on tsW⟩
              · rw [List.map_append]
                exact ((iW.on ts712).append (.cons (way_im hy12) .nil)).on tsW
              · rw [List.map_append, eacc, List.take_add_one, ep]
                rfl
              · intro z hz
                rcases List.mem_append.mp hz with h | h
                · exact bnd z h
                · rw [List.mem_singleton.mp h]
                  exact ⟨by show 1 ≤ 1 + (r6 : Int); omega, by show 1 + (r6 : Int) ≤ 1000000000000; omega⟩
              · rw [upd_ne (Ne.symm WS)]
                exact hS12
          · rintro σ H7 ⟨u6, u7, u8, u9, g6, acc, ws, rfl, mid, hW, iW, eacc, bnd, Wg, hS, imU⟩
            rw [lu, List.take_of_length_le (by omega)] at eacc
            obtain ⟨wok, pn, lacc⟩ := web_of_pairs NO (by omega) mid.ok eacc bnd (by omega)
            refine ⟨_, rfl, _, rfl, by show 2 ≤ sizeLine; decide, fun T nT => ?_⟩
            have sT : Same H7 (upd H7 T (.tup [.ref Nl, .ref W])) := same_new nT
            exact q T names acc g6 _ (mid.rl.free mid.so nT) (mid.on sT).so mid.fr ⟨Nl, W, ws, upd_same, sT _ _ mid.nl, sT _ _ hW, iW.on (TS.same sT)⟩ wok pn inP (by omega) (by omega) (mid.rl.on sT)
        · refine ⟨_, rfl, rfl, _, rfl, ?_⟩
          rw [dec_int]
          by_cases e3 : (sh : Int) = 3
          · rw [decide_eq_true e3]
            refine iteT ⟨_, rfl, Nl, _, rfl, .inl (SqL.of mid.nl), _, _, rfl, rfl, _, rfl, ?_⟩
            by_cases gt : (2 : Int) < ((names.map V.str).length : Int)
            · rw [decide_eq_true gt]
              rw [lnV] at gt
              refine iteT ?_
              have lw : names.length - 1 < names.length := by omega
              have nne : names ≠ [] := List.ne_nil_of_length_pos (by omega)
              have lastv : atI (names.map V.str) (-1) = some (.str names[names.length - 1]) := by
                rw [atI_end (xs := names.map V.str) (by simpa using nne), List.getLast_map, List.getLast_eq_getElem]
              refine ⟨_, rfl, _, rfl, Nl, _, 0, _, rfl, rfl, SqL.of mid.nl, atI_nat (name_at (j := 0) (by omega)), _, rfl, 1, rfl, Nl, _, _, _, rfl, rfl, SqL.of mid.nl, lastv, by show 2 ≤ sizeLine; decide, fun t nt => ?_⟩
              have mid10 := mid.on (same_new (o := .tup [.str names[0], .str names[names.length - 1]]) nt)
              refine ⟨D, _, rfl, DPut.t (k := pK (names[0], names[names.length - 1])) mid10.dt upd_same (by rw [lE]; exact Nat.lt_of_lt_of_le (show ps.length < 200 by omega) (by decide)), ?_⟩
              refine rest _ _ ⟨_, _, _, _, g5, putB ps (names[0], names[names.length - 1]), rfl, mid10.put (List.getElem_mem _) (List.getElem_mem _) (lt_of (by omega) lw), ?_⟩
              have := putB_len ps (names[0], names[names.length - 1])
              omega
            · rw [decide_eq_false gt]
              exact iteF (rest _ _ ⟨_, _, _, _, g5, ps, rfl, mid, by omega⟩)
          · rw [decide_eq_false e3]
            exact iteF (iteF (rest _ _ ⟨_, _, _, _, g5, ps, rfl, mid, by omega⟩))
      · refine ⟨_, rfl, _, rfl, Nl, _, rfl, .inl (SqL.of mid.nl), _, _, rfl, rfl, _, rfl, ?_⟩
        refine if_k (fun H4 X => 1 ≤ X ∧ X ≤ 2 + (names.length : Int) ∧ Same H' H4) (fun X H4 hX => ?_) (fun gt k => ?_) (fun gt k => k 1 _ ⟨by omega, by omega, Same.refl _⟩)
        · obtain ⟨X1, X2, s4⟩ := hX
          have mid4 := mid.on s4
          refine ⟨a, g4, mm, X, rfl, mid4.rl, X1, by omega, fun t g5 H5 tl so5 fr5 R5 => ?_⟩
          have mid5 := mid4.draw so5 fr5 R5
          refine ⟨(t : Int), rfl, by omega, by omega, ?_⟩
          rw [show ((t : Int)).toNat = t from by omega]
          refine for_it (walk_range (lo := 0) (n := t)) (fun i σ H2 => ∃ (u6 u7 u8 u9 : Option V) (g' : Addr) (ps : List (Str × Str)), σ = [some (.ref a), some (.int (m : Int)), some (.int wd), some (.ref Nl), some (.int (sh : Int)), some (.ref D), u6, u7, u8, u9, none] ∧ RMid H a g mm Nl D names H2 g' ps ∧ ps.length < names.length + i)
            ⟨_, _, _, _, g5, ps, rfl, mid5, by omega⟩ (fun _ _ _ _ _ => True.intro) ?_ ?_
          · rintro i x σ H7 H8 hi ⟨u6, u7, u8, u9, g6, ps, rfl, mid, hl⟩ ⟨rfl, rfl⟩
            refine ⟨_, rfl, _, rfl, Nl, _, rfl, .inl (SqL.of mid.nl), a, g6, mm, _, rfl, mid.rl, by omega, by omega, fun v1 g7 H9 v1l so9 fr9 R9 => ?_⟩
            have mid9 := mid.draw so9 fr9 R9
            refine ⟨_, rfl, _, rfl, Nl, _, rfl, .inl (SqL.of mid9.nl), a, g7, mm, _, rfl, mid9.rl, by omega, by omega, fun w1 g8 H10 w1l so10 fr10 R10 => ?_⟩
            have mid10 := mid9.draw so10 fr10 R10
            refine ⟨_, _, rfl, _, rfl, _, rfl, rfl, _, rfl, ?_⟩
            rw [dec_int]
            rw [lnV] at v1l w1l
            by_cases eq : (v1 : Int) = (w1 : Int)
            · rw [decide_eq_true eq]
              exact iteF ⟨_, _, _, _, g8, ps, rfl, mid10, by omega⟩
            · rw [decide_eq_false eq]
              refine iteT ?_
              have eMin : (if (w1 : Int) < (v1 : Int) then (w1 : Int) else (v1 : Int)) = ((min v1 w1 : Nat) : Int) := by split <;> omega
              have eMax : (if (w1 : Int) > (v1 : Int) then (w1 : Int) else (v1 : Int)) = ((max v1 w1 : Nat) : Int) := by split <;> omega
              have lMax : max v1 w1 < names.length := by omega
              have lMin : min v1 w1 < max v1 w1 := by omega
              have lMin2 : min v1 w1 < names.length := by omega
              refine ⟨_, rfl, _, rfl, _, rfl, _, rfl, (v1 : Int), (w1 : Int), rfl, Nl, _, (if (w1 : Int) < (v1 : Int) then (w1 : Int) else (v1 : Int)), _, rfl, rfl, SqL.of mid10.nl, by rw [eMin]; exact atI_nat (name_at lMin2), _, rfl, _, rfl, _, rfl, (v1 : Int), (w1 : Int), rfl, Nl, _, (if (w1 : Int) > (v1 : Int) then (w1 : Int) else (v1 : Int)), _, rfl, rfl, SqL.of mid10.nl, by rw [eMax]; exact atI_nat (name_at lMax), by show 2 ≤ sizeLine; decide, fun t nt => ?_⟩
              generalize hj1 : min v1 w1 = j1 at lMin lMin2
              generalize hj2 : max v1 w1 = j2 at lMax lMin
              have mid11 := mid10.on (same_new (o := .tup [.str names[j1], .str names[j2]]) nt)
              refine ⟨D, _, rfl, DPut.t (k := pK (names[j1], names[j2])) mid11.dt upd_same (by rw [lE]; exact Nat.lt_of_lt_of_le (show ps.length < 200 by omega) (by decide)), ?_⟩
              refine ⟨_, _, _, _, g8, putB ps (names[j1], names[j2]), rfl, mid11.put (List.getElem_mem _) (List.getElem_mem _) (lt_of lMin lMax), ?_⟩
              have := putB_len ps (names[j1], names[j2])
              omega
          · rintro σ H4 ⟨u6, u7, u8, u9, g6, ps, rfl, mid, hl⟩
            exact rest _ _ ⟨_, _, _, _, g6, ps, rfl, mid, by omega⟩
        · refine ⟨_, rfl, Nl, _, rfl, .inl (SqL.of mid.nl), _, _, rfl, rfl, by show 4 ≤ sizeLine; decide, fun p np => ?_⟩
          obtain ⟨X, eX, cX⟩ := pick4R (x := 1) (y := 2) (z := 2 + ((names.map V.str).length : Int)) (u := 1) (r := sh) (by omega)
          rw [lnV] at cX
          exact ⟨_, rfl, p, _, _, _, rfl, rfl, SqL.of upd_same, atI_nat eX, k X _ ⟨by omega, by omega, same_new np⟩⟩
    · -- the first ways
      refine ⟨_, rfl, Nl, _, rfl, .inl (SqL.of mid0.nl), 1, (names.map V.str).length, rfl, ⟨by decide, by decide, by omega, by omega⟩, ?_⟩
      refine for_it (walk_range (lo := 1) (n := (((names.map V.str).length : Int) - 1).toNat)) (fun i σ H2 => ∃ (u6 u7 : Option V) (g' : Addr) (ps : List (Str × Str)), σ = [some (.ref a), some (.int (m : Int)), some (.int wd), some (.ref Nl), some (.int (sh : Int)), some (.ref D), u6, u7, none, none, none] ∧ RMid H a g mm Nl D names H2 g' ps ∧ ps.length ≤ i)
        ⟨none, none, g3, [], rfl, mid0, by simp⟩ (fun _ _ _ _ _ => True.intro) ?_ ?_
      · rintro i x σ H4 H5 hi ⟨u6, u7, g4, ps, rfl, mid, hl⟩ ⟨rfl, rfl⟩
        rw [lnV] at hi
        have li : i + 1 < names.length := by omega
        have e1 : (1 : Int) + (i : Nat) = ((i + 1 : Nat) : Int) := by omega
        show gName 6 (.int ((1 : Int) + (i : Nat))) _ _ _
        rw [e1]
        refine ⟨_, rfl, _, _, rfl, rfl, _, rfl, _, rfl, a, g4, mm, _, rfl, mid.rl, by omega, by omega, fun r2 g5 H6 r2l so6 fr6 R6 => ?_⟩
        have mid6 := mid.draw so6 fr6 R6
        refine ⟨_, rfl, _, _, rfl, rfl, _, rfl, a, g5, mm, 2, rfl, mid6.rl, by decide, by decide, fun r3 g6 H7 r3l so7 fr7 R7 => ?_⟩
        have mid7 := mid6.draw so7 fr7 R7
        refine ⟨_, _, rfl, rfl, 0, ((i + 1 : Nat) : Int) - 1 - (r3 : Int), rfl, _, rfl, _, _, rfl, rfl, by show 4 ≤ sizeLine; decide, fun p np => ?_⟩
        obtain ⟨v, ev, cv⟩ := pick4R (x := ((i + 1 : Nat) : Int) - 1) (y := (r2 : Int)) (z := if ((i + 1 : Nat) : Int) - 1 - (r3 : Int) > 0 then ((i + 1 : Nat) : Int) - 1 - (r3 : Int) else 0) (u := ((i + 1 : Nat) : Int) - 1) (r := sh) (by omega)
        obtain ⟨j1, rfl, j1l⟩ : ∃ j1 : Nat, v = (j1 : Int) ∧ j1 < i + 1 := by
          rcases cv with h | h | h | h
          · exact ⟨i, by omega, by omega⟩
          · exact ⟨r2, h, by omega⟩
          · refine ⟨i - r3, ?_, by omega⟩
            rw [h]
            split <;> omega
          · exact ⟨i, by omega, by omega⟩
        have mid8 := mid7.on (same_new (o := .lst [.int (((i + 1 : Nat) : Int) - 1), .int (r2 : Int), .int (if ((i + 1 : Nat) : Int) - 1 - (r3 : Int) > 0 then ((i + 1 : Nat) : Int) - 1 - (r3 : Int) else 0), .int (((i + 1 : Nat) : Int) - 1)]) np)
        refine ⟨_, rfl, p, _, _, _, rfl, rfl, SqL.of upd_same, atI_nat ev, ?_⟩
        -- the coin
        refine ⟨_, rfl, a, g6, mm, 9, rfl, mid8.rl, by decide, by decide, fun r5 g7 H8 r5l so8 fr8 R8 => ⟨_, _, rfl, rfl, _, rfl, ?_⟩⟩
        have mid9 := mid8.draw so8 fr8 R8
        by_cases rp : (0 : Int) < (r5 : Int)
        · rw [decide_eq_true rp]
          refine iteT ?_
          refine ⟨_, rfl, _, rfl, _, rfl, Nl, _, _, _, rfl, rfl, SqL.of mid9.nl, atI_nat (name_at (j := j1) (by omega)), _, rfl, _, rfl, Nl, _, _, _, rfl, rfl, SqL.of mid9.nl, atI_nat (name_at li), by show 2 ≤ sizeLine; decide, fun t nt => ?_⟩
          have mid10 := mid9.on (same_new (o := .tup [.str names[j1], .str names[i + 1]]) nt)
          refine ⟨D, _, rfl, DPut.t (k := pK (names[j1], names[i + 1])) mid10.dt upd_same (by rw [lE]; exact Nat.lt_of_lt_of_le (show ps.length < 100 by omega) (by decide)), ?_⟩
          refine ⟨_, _, g7, putB ps (names[j1], names[i + 1]), rfl, mid10.put (List.getElem_mem _) (List.getElem_mem _) (lt_of j1l li), ?_⟩
          have := putB_len ps (names[j1], names[i + 1])
          omega
        · rw [decide_eq_false rp]
          exact iteF ⟨_, _, g7, ps, rfl, mid9, by omega⟩
      · rintro σ H4 ⟨u6, u7, g4, ps, rfl, mid, hl⟩
        rw [lnV] at hl
        exact rest _ _ ⟨u6, u7, g4, ps, rfl, mid, by omega⟩
end
end Cry
/-! The later stages' webs, by lists or tuples. -/
namespace Cry
open PySem PySem.Spec PyProof.Rows L2
/-- a web stands at v, by lists or tuples -/
def WebV (H : Hp) (v : V) (names : List Str) (ways : List Way) : Prop := ∃ T F W ws, v = .ref T ∧ RowAt H T [.ref F, .ref W] ∧ RowAt H F (names.map V.str) ∧ RowAt H W ws ∧ ItemsAt H ws ways
theorem RowAt.on {H H' : Hp} {a : Addr} {xs : List V} (h : RowAt H a xs) (s : Same H H') : RowAt H' a xs := h.elim (fun h => .inl (s _ _ h)) fun h => .inr (s _ _ h)
theorem ItemAt.on {H H' : Hp} {v : V} {y : Way} (h : ItemAt H v y) (s : Same H H') : ItemAt H' v y := by
  obtain ⟨b, e, h | h⟩ := h
  · exact ⟨b, e, .inl (s _ _ h)⟩
  · exact ⟨b, e, .inr (s _ _ h)⟩
theorem ItemsAt.on {H H' : Hp} {ws : List V} {ways : List Way} (h : ItemsAt H ws ways) (s : Same H H') : ItemsAt H' ws ways := ⟨h.1, fun i v y e1 e2 => (h.2 i v y e1 e2).on s⟩
theorem WebV.on {H H' : Hp} {v : V} {names : List Str} {ways : List Way} (h : WebV H v names ways) (s : Same H H') : WebV H' v names ways := by
  obtain ⟨T, F, W, ws, e, h1, h2, h3, h4⟩ := h
  exact ⟨T, F, W, ws, e, h1.on s, h2.on s, h3.on s, h4.on s⟩
/-- what the reel's own row isn't -/
theorem ReelAt.row {H H' : Hp} {a g m b : Addr} {xs : List V} (R : ReelAt H a g m) (so : SameO a H H') (h : RowAt H b xs) (no : ∀ g m c t, xs ≠ [.ref g, .ref m, .int c, .int t]) : RowAt H' b xs := by
  obtain ⟨gs, ms, cnt, stir, ha, _⟩ := R
  rcases h with h | h
  · refine .inl (so _ _ ?_ h)
    rintro rfl
    rw [ha] at h
    cases h
    exact no _ _ _ _ rfl
  · refine .inr (so _ _ ?_ h)
    rintro rfl
    rw [ha] at h
    cases h
theorem ItemsAt.soR {H H' : Hp} {a g m : Addr} {ws : List V} {ways : List Way} (h : ItemsAt H ws ways) (R : ReelAt H a g m) (so : SameO a H H') : ItemsAt H' ws ways := by
  refine ⟨h.1, fun i v y e1 e2 => ?_⟩
  obtain ⟨b, e, hb⟩ := h.2 i v y e1 e2
  exact ⟨b, e, R.row so hb fun _ _ _ _ z => by cases z⟩
theorem ItemsAt.notR {H : Hp} {ws : List V} {ways : List Way} (h : ItemsAt H ws ways) (g m : Addr) (c t : Int) : ws ≠ [.ref g, .ref m, .int c, .int t] := by
  rintro rfl
  have l := h.1
  obtain ⟨y, ey⟩ : ∃ y, ways[2]? = some y := ⟨_, List.getElem?_eq_getElem (by rw [← l]; exact (by decide : 2 < 4))⟩
  obtain ⟨b, e, _⟩ := h.2 2 _ y rfl ey
  cases e
theorem WebV.soR {H H' : Hp} {a g m : Addr} {v : V} {names : List Str} {ways : List Way} (h : WebV H v names ways) (R : ReelAt H a g m) (so : SameO a H H') : WebV H' v names ways := by
  obtain ⟨T, F, W, ws, e, h1, h2, h3, h4⟩ := h
  refine ⟨T, F, W, ws, e, R.row so h1 fun _ _ _ _ z => (by cases z), R.row so h2 fun g m c t z => ?_, R.row so h3 (h4.notR), h4.soR R so⟩
  cases names with
  | nil => cases z
  | cons x r => cases z
theorem WebV.data {H : Hp} {v : V} {names : List Str} {ways : List Way} (h : WebV H v names ways) (wok : WebOk names ways) : ∃ d, Da H v d ∧ WebForm names ways d ∧ Sm 50000 3 d := by
  obtain ⟨T, F, W, ws, rfl, h1, h2, h3, h4⟩ := h
  exact web_da h1 h2 h3 h4 wok
theorem WebAt.v {H : Hp} {T : Addr} {names : List Str} {ways : List Way} (h : WebAt H T names ways) : WebV H (.ref T) names ways := by
  obtain ⟨F, W, ws, hT, hF, hW, hI⟩ := h
  refine ⟨T, F, W, ws, rfl, .inr hT, .inl hF, .inl hW, by have := hI.length; rwa [List.length_map] at this, fun i v y k1 k2 => ?_⟩
  obtain ⟨d, ed, im⟩ := Ims.at hI k1
  rw [List.getElem?_map, k2] at ed
  cases ed
  obtain ⟨b, rfl, hb⟩ := im_way im
  exact ⟨b, rfl, .inr hb⟩
theorem pickR {x y : V} {r : Nat} (h : r < 2) : ∃ v, [x, y][r]? = some v ∧ (v = x ∨ v = y) := by
  have c : r = 0 ∨ r = 1 := by omega
  rcases c with rfl | rfl
  · exact ⟨x, rfl, .inl rfl⟩
  · exact ⟨y, rfl, .inr rfl⟩
section
variable {P : Program} {w : World} {K : PySem.W.Frag} {mg : Str → Option Value} {base : Heap}
abbrev nRDress : List Str := ["reel", "web", "ways", "folk", "way"]
theorem scRDress : FnScope nRDress ["reel", "web"] (defScope sLDressedWeb) := ⟨rfl, rfl, rfl, by decide +kernel, rfl, by decide +kernel, by decide +kernel⟩
abbrev rListR (K : PySem.W.Frag) : List V → Hp → VK → Prop := fun xs H Q => ∃ p ys, xs = [V.ref p] ∧ (SqL K H p ys ∨ SqT K H p ys) ∧ ∀ (l : Addr), H l = none → Q (.ref l) (upd H l (.lst ys))
theorem cr_listR {X : Cx} : CallR X (.type "list") (rListR X.K) := call_list_of
def spRDress : Sp := fun vs H Q _ => ∃ (a g mm T : Addr) (names : List Str) (ways : List Way), vs = [.ref a, .ref T] ∧ ReelAt H a g mm ∧ WebAt H T names ways ∧ WebOk names ways ∧
  ∀ (v : V) (g' : Addr) (H' : Hp), SameO a H H' → (g' = g ∨ H g' = none) → ReelAt H' a g' mm → WebV H' v names ways → Q v H'
theorem ok_rdress {f f1 : Addr} {fd fd1 : FuncData} (F : Fun K "_law_dressed_web" "_law_dressed_web" sLDressedWeb f fd) (mL : mg "list" = none) (mT : mg "tuple" = none) (D1 : Def K mg "_law_draw" f1 fd1 ["reel", "many"]) (G1 : FnOk P w K mg base CX0 1 f1 fd1 ["reel", "many"] spRDraw) : FnOk P w K mg base CX0 2 f fd ["reel", "web"] spRDress := by
  refine F.ok scRDress (fun vs H Q E h => ?_) (fun cdv A outer s H vs Q E hr h => ?_)
  · obtain ⟨a, g, mm, T, names, ways, rfl, _⟩ := h
    rfl
  · obtain ⟨a, g, mm, T, names, ways, rfl, R, hw, wok, q⟩ := h
    refine ⟨_, pss_cons (ps_setLc (i := 2) (own := [("way", 4)]) (g := gName 4) (tt := tYes) (te := tOp (rIxL K) (tLst (tCons (tCB (rListR K) (tCons (tVar 4) tNil)) (tCons (tVar 4) tNil))) (tCall spRDraw [] E0 (tCons (tVar 0) (tCons (tC (.int 2)) tNil)))) (by rfl) scRDress.nd rfl rfl (sw_true rfl rfl rfl (by decide +kernel))
          (pi_list (pe_ix ix_tup (pv 1) pe_int (fun _ _ => rfl))) (blkOk_by (N := nRDress) (sc := defScope sLDressedWeb) (by decide +kernel)) (fun _ _ _ _ _ => pg_name (i := 4) scRDress.nd rfl (Or.inl rfl)) (fun _ _ _ _ _ => pts_nil)
          (fun _ _ _ _ _ => (pe_ix ix_list (pe_lst (pa_cons (pe_callTy cr_listR (by rfl) mL (by decide +kernel) (pa_cons (pv 4) pa_nil)) (pa_cons (pv 4) pa_nil))) (pe_call G1 hr (by rfl) D1.at_ D1.kp D1.b .nil pass0 (pa_cons (pv 0) (pa_cons pe_int pa_nil))) (fun _ _ => rfl))))
    (pss_cons (ps_par rfl scRDress.nd (i := 3) (j := 2) rfl rfl (by decide) rfl rfl (pa_cons (pe_ix ix_list (pe_lst (pa_cons (pe_callTy cr_listR (by rfl) mL (by decide +kernel) (pa_cons (pe_ix ix_tup (pv 1) pe_int (fun _ _ => rfl)) pa_nil)) (pa_cons (pe_callTy call_tuple_of (by rfl) mT (by decide +kernel) (pa_cons (pe_ix ix_tup (pv 1) pe_int (fun _ _ => rfl)) pa_nil)) pa_nil))) (pe_call G1 hr (by rfl) D1.at_ D1.kp D1.b .nil pass0 (pa_cons (pv 0) (pa_cons pe_int pa_nil))) (fun _ _ => rfl)) (pa_cons (pe_ix ix_list (pe_lst (pa_cons (pv 2) (pa_cons (pe_callTy call_tuple_of (by rfl) mT (by decide +kernel) (pa_cons (pv 2) pa_nil)) pa_nil))) (pe_call G1 hr (by rfl) D1.at_ D1.kp D1.b .nil pass0 (pa_cons (pv 0) (pa_cons pe_int pa_nil))) (fun _ _ => rfl)) pa_nil)) (by rfl))
    (pss_one (ps_ret (pe_ix ix_list (pe_lst (pa_cons (pe_lst (pa_cons (pv 3) (pa_cons (pv 2) pa_nil))) (pa_cons (pe_tup (pa_cons (pv 3) (pa_cons (pv 2) pa_nil))) pa_nil))) (pe_call G1 hr (by rfl) D1.at_ D1.kp D1.b .nil pass0 (pa_cons (pv 0) (pa_cons pe_int pa_nil))) (fun _ _ => rfl))))), ?_⟩
    have ne : names ≠ [] := fun e => by
      have := wok.one
      rw [e] at this
      exact absurd this (by decide)
    obtain ⟨F0, W0, ws0, hT, hF, hW, hI, nT, nF, nW⟩ := hw.apartR R ne
    have lws := hI.length
    rw [List.length_map] at lws
    have few := wok.few
    refine ⟨_, rfl, T, _, 1, _, rfl, rfl, SqT.of hT, atI_nat (j := 1) rfl, W0, rfl, ⟨_, SqL.of hW⟩, fun D nD => ?_⟩
    obtain ⟨Da', Dg, Dm⟩ := R.ne nD
    refine lc_it (walk_list (K := K) (a := W0) (xs := ws0)) (fun i H' => ∃ (g' : Addr) (acc : List V), H' D = some (.lst acc) ∧ acc.length = i ∧ (∀ v ∈ acc, ∃ b, v = .ref b) ∧ (∀ (j : Nat) v y, acc[j]? = some v → ways[j]? = some y → ItemAt H' v y) ∧ ReelAt H' a g' mm ∧ D ≠ g' ∧ (g' = g ∨ H g' = none) ∧ SameO a H H')
      ⟨g, [], upd_same, rfl, (fun v hv => nomatch hv), (fun j v y h => by simp at h), R.new nD, Dg, .inl rfl, sameO_new (fun _ _ _ e => e) nD⟩ (fun i H' _ ⟨_, _, _, _, _, _, _, _, _, so⟩ => SqL.of (so _ _ nW hW)) ?_ ?_
    · rintro i x H2 H3 hi ⟨g2, acc, hacc, la, refs, it, R2, Dg2, fr2, so⟩ ⟨rfl, ex⟩
      have iw : i < ways.length := by omega
      obtain ⟨d, ed, imd⟩ := Ims.at (hI.on (R.ts so)) ex
      rw [List.getElem?_map, List.getElem?_eq_getElem iw] at ed
      cases ed
      obtain ⟨b, rfl, hb⟩ := im_way imd
      have ey : ways[i]? = some ways[i] := List.getElem?_eq_getElem iw
      generalize ways[i] = y at hb ey
      refine ⟨rfl, _, rfl, b, _, rfl, .inr (SqT.of hb), fun l1 nl1 => ⟨_, rfl, by show 2 ≤ sizeLine; decide, fun p np => ?_⟩⟩
      have s4 := (same_new (o := .lst (y3 y)) nl1).trans (same_new (o := .lst [.ref l1, .ref b]) np)
      have hl4 : (upd (upd H3 l1 (.lst (y3 y))) p (.lst [.ref l1, .ref b])) l1 = some (.lst (y3 y)) := same_new np _ _ upd_same
      have hp4 : (upd (upd H3 l1 (.lst (y3 y))) p (.lst [.ref l1, .ref b])) p = some (.lst [.ref l1, .ref b]) := upd_same
      have R4 := R2.on s4
      have l1a := (R2.ne nl1).1
      have pa := ((R2.new (o := .lst (y3 y)) nl1).ne np).1
      have hb4 := s4 _ _ hb
      have hacc4 := s4 _ _ hacc
      show (tCall spRDraw [] E0 _) _ (upd (upd H3 l1 (.lst (y3 y))) p (.lst [.ref l1, .ref b])) _
      generalize (upd (upd H3 l1 (.lst (y3 y))) p (.lst [.ref l1, .ref b])) = H4 at s4 hl4 hp4 R4 hb4 hacc4 ⊢
      refine ⟨_, rfl, a, g2, mm, 2, rfl, R4, by decide, by decide, fun r g5 H5 rl so5 fr5 R5 => ?_⟩
      obtain ⟨v, ev, cv⟩ := pickR (x := .ref l1) (y := .ref b) (r := r) (by omega)
      refine ⟨p, _, _, v, rfl, rfl, SqL.of (so5 _ _ pa hp4), atI_nat ev, ?_⟩
      have noY : ∀ (z : Way) (g m : Addr) (c t : Int), y3 z ≠ [.ref g, .ref m, .int c, .int t] := fun z g m c t e => by cases e
      have iv : ItemAt H5 v y := by
        rcases cv with rfl | rfl
        · exact ⟨l1, rfl, R4.row so5 (.inl hl4) (noY y)⟩
        · exact ⟨b, rfl, R4.row so5 (.inr hb4) (noY y)⟩
      have hacc5 := so5 _ _ Da' hacc4
      have Dg5 : D ≠ g5 := by
        rcases fr5 with rfl | h
        · exact Dg2
        · rintro rfl
          rw [hacc4] at h
          cases h
      have so' : SameO a H H5 := (so.trans (SameO.of s4)).trans so5
      have rv : ∃ b, v = .ref b := by
        rcases cv with rfl | rfl
        · exact ⟨_, rfl⟩
        · exact ⟨_, rfl⟩
      have keepD : ∀ (u : V) (z : Way) (o : HO), ItemAt H5 u z → ItemAt (upd H5 D o) u z := fun u z o h => by
        obtain ⟨c, e, hc⟩ := h
        have cD : c ≠ D := by
          rintro rfl
          rcases hc with hc | hc
          · rw [hacc5] at hc
            cases hc
            obtain ⟨_, k⟩ := refs (.str z.1) (List.mem_cons_self ..)
            cases k
          · rw [hacc5] at hc
            cases hc
        refine ⟨c, e, ?_⟩
        rw [upd_ne cD]
        exact hc
      refine ⟨acc, hacc5, Nat.lt_of_lt_of_le (show acc.length < 1000 by omega) (by decide), g5, acc ++ [v], upd_same, by rw [List.length_append, la]; rfl, fun u hu => ?_, fun j u z e1 e2 => ?_, R5.up Da' Dg5 Dm, Dg5, R2.fresh so ?_ fr2, sameO_new so' nD⟩
      · rcases List.mem_append.mp hu with h | h
        · exact refs u h
        · rw [List.mem_singleton.mp h]
          exact rv
      · refine keepD u z _ ?_
        by_cases jl : j < acc.length
        · rw [List.getElem?_append_left jl] at e1
          have i3 := it j u z e1 e2
          obtain ⟨c, e, hc⟩ := i3.on s4
          exact ⟨c, e, R4.row so5 hc (noY z)⟩
        · have je : j = i := by
            have := (List.getElem?_eq_some_iff.mp e1).1
            rw [List.length_append] at this
            have h1 : [v].length = 1 := rfl
            omega
          rw [je, ← la, List.getElem?_append_right (Nat.le_refl _), Nat.sub_self] at e1
          cases e1
          rw [je, ey] at e2
          cases e2
          exact iv
      · rcases fr5 with h | h
        · exact .inl h
        · refine .inr ?_
          exact s4.free h
    · rintro H2 ⟨g2, acc, hacc, la, refs, it, R2, Dg2, fr2, so⟩
      have iA : ItemsAt H2 acc ways := ⟨by omega, it⟩
      have nN : ∀ (g m : Addr) (c t : Int), names.map V.str ≠ [.ref g, .ref m, .int c, .int t] := fun g m c t z => by
        cases names with
        | nil => exact ne rfl
        | cons x r => cases z
      have hT2 := so _ _ nT hT
      have hF2 := so _ _ nF hF
      -- folk
      refine ⟨_, rfl, T, _, 0, _, rfl, rfl, SqT.of hT2, atI_nat (j := 0) rfl, F0, _, rfl, .inl (SqL.of hF2), fun l1 nl1 => ?_⟩
      have s3 := same_new (o := .lst (names.map V.str)) nl1
      have hl3 : (upd H2 l1 (.lst (names.map V.str))) l1 = some (.lst (names.map V.str)) := upd_same
      generalize (upd H2 l1 (.lst (names.map V.str))) = H3 at s3 hl3 ⊢
      refine ⟨_, rfl, T, _, 0, _, rfl, rfl, SqT.of (s3 _ _ hT2), atI_nat (j := 0) rfl, F0, _, rfl, .inl ⟨SqL.of (s3 _ _ hF2), fun l2 nl2 => ?_⟩⟩
      have s4 := s3.trans (same_new (o := .tup (names.map V.str)) nl2)
      have hl4 := same_new (o := .tup (names.map V.str)) nl2 _ _ hl3
      have hl4' : (upd H3 l2 (.tup (names.map V.str))) l2 = some (.tup (names.map V.str)) := upd_same
      generalize (upd H3 l2 (.tup (names.map V.str))) = H4 at s4 hl4 hl4' ⊢
      refine ⟨by show 2 ≤ sizeLine; decide, fun p np => ?_⟩
      have s5 := s4.trans (same_new (o := .lst [.ref l1, .ref l2]) np)
      have hl5 := same_new (o := .lst [.ref l1, .ref l2]) np _ _ hl4
      have hl5' := same_new (o := .lst [.ref l1, .ref l2]) np _ _ hl4'
      have hp5 : (upd H4 p (.lst [.ref l1, .ref l2])) p = some (.lst [.ref l1, .ref l2]) := upd_same
      have pa : p ≠ a := ((R2.on s4).ne np).1
      generalize (upd H4 p (.lst [.ref l1, .ref l2])) = H5 at s5 hl5 hl5' hp5 ⊢
      have R5 := R2.on s5
      refine ⟨_, rfl, a, g2, mm, 2, rfl, R5, by decide, by decide, fun r g6 H6 rl so6 fr6 R6 => ?_⟩
      obtain ⟨vf, ev, cv⟩ := pickR (x := .ref l1) (y := .ref l2) (r := r) (by omega)
      refine ⟨p, _, _, vf, rfl, rfl, SqL.of (so6 _ _ pa hp5), atI_nat ev, ?_⟩
      obtain ⟨f', rfl, hf⟩ : ∃ f', vf = .ref f' ∧ RowAt H6 f' (names.map V.str) := by
        rcases cv with rfl | rfl
        · exact ⟨l1, rfl, R5.row so6 (.inl hl5) nN⟩
        · exact ⟨l2, rfl, R5.row so6 (.inr hl5') nN⟩
      have so26 : SameO a H2 H6 := (SameO.of s5).trans so6
      have hD6 := so26 _ _ Da' hacc
      have iA6 := iA.soR R2 so26
      have fr26 : g6 = g2 ∨ H2 g6 = none := by
        rcases fr6 with h | h
        · exact .inl h
        · exact .inr (s5.free h)
      -- ways
      refine ⟨_, rfl, _, rfl, D, _, rfl, .inl ⟨SqL.of hD6, fun l3 nl3 => ?_⟩⟩
      have s7 := same_new (o := .tup acc) nl3
      have hl7 : (upd H6 l3 (.tup acc)) l3 = some (.tup acc) := upd_same
      generalize (upd H6 l3 (.tup acc)) = H7 at s7 hl7 ⊢
      refine ⟨by show 2 ≤ sizeLine; decide, fun p2 np2 => ?_⟩
      have s8 := s7.trans (same_new (o := .lst [.ref D, .ref l3]) np2)
      have hl8 := same_new (o := .lst [.ref D, .ref l3]) np2 _ _ hl7
      have hp8 : (upd H7 p2 (.lst [.ref D, .ref l3])) p2 = some (.lst [.ref D, .ref l3]) := upd_same
      have p2a : p2 ≠ a := ((R6.on s7).ne np2).1
      generalize (upd H7 p2 (.lst [.ref D, .ref l3])) = H8 at s8 hl8 hp8 ⊢
      have R8 := R6.on s8
      refine ⟨_, rfl, a, g6, mm, 2, rfl, R8, by decide, by decide, fun r2 g9 H9 r2l so9 fr9 R9 => ?_⟩
      obtain ⟨vw, ev2, cv2⟩ := pickR (x := .ref D) (y := .ref l3) (r := r2) (by omega)
      refine ⟨p2, _, _, vw, rfl, rfl, SqL.of (so9 _ _ p2a hp8), atI_nat ev2, ?_⟩
      obtain ⟨w', rfl, hw'⟩ : ∃ w', vw = .ref w' ∧ RowAt H9 w' acc := by
        rcases cv2 with rfl | rfl
        · exact ⟨D, rfl, R8.row so9 (.inl (s8 _ _ hD6)) iA.notR⟩
        · exact ⟨l3, rfl, R8.row so9 (.inr hl8) iA.notR⟩
      have so69 : SameO a H6 H9 := (SameO.of s8).trans so9
      have hf9 := R6.row so69 hf nN
      have iA9 := iA6.soR R6 so69
      have so29 := so26.trans so69
      have fr29 : g9 = g2 ∨ H2 g9 = none := R6.fresh so26 (fr9.elim .inl fun h => .inr (s8.free h)) fr26
      -- both
      refine ⟨_, _, rfl, _, rfl, _, rfl, by show 2 ≤ sizeLine; decide, fun q1 nq1 => ?_⟩
      have s10 := same_new (o := .lst [.ref f', .ref w']) nq1
      have h10 : (upd H9 q1 (.lst [.ref f', .ref w'])) q1 = some (.lst [.ref f', .ref w']) := upd_same
      generalize (upd H9 q1 (.lst [.ref f', .ref w'])) = H10 at s10 h10 ⊢
      refine ⟨_, rfl, _, rfl, by show 2 ≤ sizeLine; decide, fun q2 nq2 => ⟨by show 2 ≤ sizeLine; decide, fun p3 np3 => ?_⟩⟩
      have s12 := (s10.trans (same_new (o := .tup [.ref f', .ref w']) nq2)).trans (same_new (o := .lst [.ref q1, .ref q2]) np3)
      have h12 := same_new (o := .lst [.ref q1, .ref q2]) np3 _ _ (same_new (o := .tup [.ref f', .ref w']) nq2 _ _ h10)
      have h12' := same_new (o := .lst [.ref q1, .ref q2]) np3 _ _ (upd_same (H := H10) (a := q2) (o := .tup [.ref f', .ref w']))
      have hp12 : (upd (upd H10 q2 (.tup [.ref f', .ref w'])) p3 (.lst [.ref q1, .ref q2])) p3 = some (.lst [.ref q1, .ref q2]) := upd_same
      have p3a : p3 ≠ a := ((R9.on (s10.trans (same_new (o := .tup [.ref f', .ref w']) nq2))).ne np3).1
      generalize (upd (upd H10 q2 (.tup [.ref f', .ref w'])) p3 (.lst [.ref q1, .ref q2])) = H12 at s12 h12 h12' hp12 ⊢
      have R12 := R9.on s12
      refine ⟨_, rfl, a, g9, mm, 2, rfl, R12, by decide, by decide, fun r3 g13 H13 r3l so13 fr13 R13 => ?_⟩
      obtain ⟨vt, ev3, cv3⟩ := pickR (x := .ref q1) (y := .ref q2) (r := r3) (by omega)
      refine ⟨p3, _, _, vt, rfl, rfl, SqL.of (so13 _ _ p3a hp12), atI_nat ev3, ?_⟩
      have so913 : SameO a H9 H13 := (SameO.of s12).trans so13
      have nP : ∀ (g m : Addr) (c t : Int), [V.ref f', V.ref w'] ≠ [.ref g, .ref m, .int c, .int t] := fun g m c t z => by cases z
      obtain ⟨t', rfl, ht⟩ : ∃ t', vt = .ref t' ∧ RowAt H13 t' [.ref f', .ref w'] := by
        rcases cv3 with rfl | rfl
        · exact ⟨q1, rfl, R12.row so13 (.inl h12) nP⟩
        · exact ⟨q2, rfl, R12.row so13 (.inr h12') nP⟩
      refine q (.ref t') g13 H13 ((so.trans so29).trans so913) ?_ R13 ⟨t', f', w', acc, rfl, ht, R9.row so913 hf9 nN, R9.row so913 hw' iA.notR, iA9.soR R9 so913⟩
      exact R9.fresh (so.trans so29) (fr13.elim .inl fun h => .inr (s12.free h)) (R2.fresh so fr29 fr2)
end
end Cry
/-! A web told right. -/
namespace Cry
open PySem PySem.Spec PyProof.Rows L2
theorem op_isnotB {X : Cx} : OpR X (compareOp .IsNot) (fun x y H Q => ∃ a b, x = .bl a ∧ y = .bl b ∧ Q (.bl (a != b)) H) := by
  intro pins s σ H x y v u Q I rx ry h
  obtain ⟨a, b, rfl, rfl, q⟩ := h
  cases rx
  cases ry
  exact isnot_bool ⟨.bl (a != b), H, I, rfl, q⟩
structure ReprR (K : PySem.W.Frag) (vs : List V) (H : Hp) (Q : VK) : Prop where
  h : rRepr K vs H Q
theorem cr_reprR {X : Cx} (hg : X.A.guards = some []) (hu : X.A.units + 64 < cLine) : CallR X (.builtin "repr") (ReprR X.K) := fun pins s σ H vs us Q I r h => cr_repr hg hu pins s σ H vs us Q I r h.h
theorem repr_datR {K : PySem.W.Frag} {H : Hp} {v : V} {d : PyData} {Q : VK} {B k : Nat} (h : Dp K H v d) (sm : Sm B k d) (hk : k ≤ 20) (hb : B ≤ 2 ^ 20) (q : Q (.str d.shown) H) : ReprR K [v] H Q := ⟨⟨v, d, rfl, h, Nat.le_trans sm.dp hk, sm.shown hb, sm.sh, q⟩⟩
/-- a web as a tuple of lists -/
def webT (names : List Str) (ways : List Way) : PyData := .tuple [.list (names.map PyData.str), .list (ways.map wayD3)]
theorem y3_sm {names : List Str} {ways : List Way} (wok : WebOk names ways) : ∀ y ∈ ways, TriOk y := fun y hy => by
  obtain ⟨k1, k2, k3, k4, _⟩ := wok.way y hy
  exact ⟨k1, k2, by omega, k4⟩
theorem webT_sm {names : List Str} {ways : List Way} (wok : WebOk names ways) : Sm 50000 3 (webT names ways) := by
  have most := wok.most
  have few := wok.few
  have b4 : Sm 20000 1 (.list (names.map PyData.str)) := Sm.list (B := 8) (k := 0) (fun e he => by
    obtain ⟨z, hz, rfl⟩ := List.mem_map.mp he
    exact Sm.str (wok.ok z hz)) (by rw [List.length_map]; omega)
  have a4 : Sm 20000 2 (.list (ways.map wayD3)) := Sm.list (B := 130) (k := 1) (fun e he => by
    obtain ⟨z, hz, rfl⟩ := List.mem_map.mp he
    exact Sm.way (y3_sm wok z hz)) (by rw [List.length_map]; omega)
  refine Sm.tuple (B := 20000) (k := 2) (fun e he => ?_) (by show 2 * 20001 ≤ 50000; decide)
  simp only [List.mem_cons, List.not_mem_nil, or_false] at he
  rcases he with rfl | rfl
  · exact b4.deep (by decide)
  · exact a4
theorem WebAt.dat {H : Hp} {T : Addr} {names : List Str} {ways : List Way} (hw : WebAt H T names ways) (wok : WebOk names ways) : Da H (.ref T) (webT names ways) := by
  obtain ⟨F, W, ws, hT, hF, hW, hI⟩ := hw
  refine .tup hT rfl fun i x e k1 k2 => ?_
  match i, k1, k2 with
  | 0, k1, k2 =>
    cases k1
    cases k2
    refine .lst hF (by simp) fun j v e e1 e2 => ?_
    rw [List.getElem?_map] at e1 e2
    cases e0 : names[j]? with
    | none =>
      rw [e0] at e1
      cases e1
    | some z =>
      rw [e0] at e1 e2
      cases e1
      cases e2
      exact .str _ (name_short (wok.ok z (List.mem_of_getElem? e0)))
  | 1, k1, k2 =>
    cases k1
    cases k2
    refine .lst hW hI.length fun j v e e1 e2 => ?_
    obtain ⟨d, ed, im⟩ := Ims.at hI e1
    rw [e2] at ed
    cases ed
    rw [List.getElem?_map] at e2
    obtain ⟨y, ey, rfl⟩ := Option.map_eq_some_iff.mp e2
    obtain ⟨b, rfl, hb⟩ := im_way im
    exact .tup hb rfl (y3_da (y3_sm wok y (List.mem_of_getElem? ey)))
  | _ + 2, k1, _ => simp at k1
theorem webT_form {names : List Str} {ways : List Way} (wok : WebOk names ways) : webD (webT names ways) = true := by
  have wf : WebForm names ways (webT names ways) := ⟨rfl, .list (names.map PyData.str), .list (ways.map wayD3), rfl, rfl, rfl, rfl, by show (ways.map wayD3).length = _; rw [List.length_map], fun i e y k1 k2 => by
    have k1' : (ways.map wayD3)[i]? = some e := k1
    rw [List.getElem?_map, k2] at k1'
    cases k1'
    exact ⟨rfl, rfl⟩⟩
  exact (wf.web wok).1
section
variable {P : Program} {w : World} {K : PySem.W.Frag} {mg : Str → Option Value} {base : Heap}
theorem scRTold : FnScope ["found", "due"] ["found", "due"] (defScope sLToldRight) := ⟨rfl, rfl, rfl, by decide +kernel, rfl, by decide +kernel, by decide +kernel⟩
/-- all but two are kept -/
def Same2 (p q : Addr) (H H' : Hp) : Prop := ∀ b o, b ≠ p → b ≠ q → H b = some o → H' b = some o
def spRTold : Sp := fun vs H Q _ => ∃ (T U F W : Addr) (ws : List V) (names : List Str) (ways : List Way), vs = [.ref T, .ref U] ∧ H T = some (.tup [.ref F, .ref W]) ∧ H F = some (.lst (names.map V.str)) ∧ H W = some (.lst ws) ∧ Ims H ws (ways.map wayD3) ∧
  WebAt H U names ways ∧ WebOk names ways ∧ ∀ H', Same2 F W H H' → Q (.bl true) H'
theorem ok_rtold {f f1 : Addr} {fd fd1 : FuncData} (F : Fun K "_law_told_right" "_law_told_right" sLToldRight f fd) (B : Blt mg) (mP : mg "repr" = none) (D1 : Def K mg "is_web" f1 fd1 ["thing"]) (G1 : FnOk P w K mg base CX0 5 f1 fd1 ["thing"] (spJudge K webD)) : FnG P w K mg base CX0 6 f fd ["found", "due"] spRTold := by
  refine okG F scRTold (fun vs H Q E h => ?_) (fun cdv A outer s H vs Q E hg hr h => ?_)
  · obtain ⟨T, U, F, W, ws, names, ways, rfl, _⟩ := h
    rfl
  · obtain ⟨T, U, F, W, ws, names, ways, rfl, hT, hF, hW, hI, hU, wok, q⟩ := h
    refine ⟨_, pss_cons (ps_if (PW.pt (pw_or (pt_not (pt_val (pe_callB call_isi (by rfl) B.isi (by decide +kernel) (pa_cons (pv 0) (pa_cons (pe_bltn (v := .ty "tuple") (u := .type "tuple") (by rfl) B.tuple (by decide +kernel) rfl) pa_nil)))))
          (pw_or (pt_cmpR op_ne (pe_callB (cr_reprR hg hr.units) (by rfl) mP (by decide +kernel) (pa_cons (pv 0) pa_nil)) (pe_callB (cr_reprR hg hr.units) (by rfl) mP (by decide +kernel) (pa_cons (pv 1) pa_nil)) (nomark _))
          (pw_or1 (pt_cmpR op_isnotB (pe_call G1 hr (by rfl) D1.at_ D1.kp D1.b .nil pass0 (pa_cons (pv 0) pa_nil)) pe_bl (nomark _)))))) (pss_one (ps_ret pe_bl)) pss_nil)
      (pss_cons (ps_expr (pe_bm PySem.F.plainAttrs_list PySem.F.slot_list_append PySem.F.type_list_append mt_append (pe_ix ix_tup (pv 0) pe_int (fun _ _ => rfl)) (pa_cons pe_str pa_nil)))
      (pss_cons (ps_expr (pe_bm PySem.F.plainAttrs_list PySem.F.slot_list_append PySem.F.type_list_append mt_append (pe_ix ix_tup (pv 0) pe_int (fun _ _ => rfl)) (pa_cons pe_non pa_nil)))
      (pss_one (ps_ret pe_bl)))), ?_⟩
    have hw : WebAt H T names ways := ⟨F, W, ws, hT, hF, hW, hI⟩
    have sm := webT_sm wok
    have da := hw.dat wok
    have daU := hU.dat wok
    have ty : TyX K H (.ref T) (.type "tuple") := (da.ty (K := K))
    refine ⟨_, rfl, _, .ty "tuple", _, _, true, rfl, .ty "tuple", ty, kit_ty (kD_tuple (webT names ways)), _, rfl, ?_⟩
    refine iteF ?_
    refine ⟨_, rfl, repr_datR (da.dp (lay_nodict _ sm.lay)) sm (by decide) (by decide) ⟨_, rfl, repr_datR (daU.dp (lay_nodict _ sm.lay)) sm (by decide) (by decide) ⟨rfl, _, rfl, ?_⟩⟩⟩
    rw [dec_str, decide_eq_true rfl]
    refine iteF ?_
    refine ⟨_, rfl, _, _, rfl, da, fun H1 s1 => ⟨_, _, rfl, rfl, _, rfl, ?_⟩⟩
    rw [webT_form wok]
    refine iteF ?_
    have lw : ws.length ≤ 150 := by
      rw [hI.length, List.length_map]
      exact wok.few
    have ln : (names.map V.str).length ≤ 60 := by
      rw [List.length_map]
      exact wok.most
    refine ⟨_, rfl, T, _, 0, _, rfl, rfl, SqT.of (s1 _ _ hT), atI_nat (j := 0) rfl, .inl ⟨rfl, _, SqL.of (s1 _ _ hF)⟩, F, _, _, rfl, rfl, s1 _ _ hF, Nat.lt_of_le_of_lt ln (by decide), ?_⟩
    have FT : T ≠ F := by
      rintro rfl
      rw [hT] at hF
      cases hF
    have WT : T ≠ W := by
      rintro rfl
      rw [hT] at hW
      cases hW
    have FW : F ≠ W := by
      rintro rfl
      rw [hF] at hW
      cases hW
      have one := wok.one
      match names, one, hI with
      | x :: r, _, hI =>
        match ways, hI with
        | [], h => cases h
        | y :: _, h =>
          cases h with
          | cons h1 _ => cases h1
    have hT2 : (upd H1 F (.lst (names.map V.str ++ [.str "zzzzzzzz"]))) T = some (.tup [.ref F, .ref W]) := by
      rw [upd_ne FT]
      exact s1 _ _ hT
    have hW2 : (upd H1 F (.lst (names.map V.str ++ [.str "zzzzzzzz"]))) W = some (.lst ws) := by
      rw [upd_ne (Ne.symm FW)]
      exact s1 _ _ hW
    refine ⟨_, rfl, T, _, 1, _, rfl, rfl, SqT.of hT2, atI_nat (j := 1) rfl, .inl ⟨rfl, _, SqL.of hW2⟩, W, _, _, rfl, rfl, hW2, Nat.lt_of_le_of_lt lw (by decide), ?_⟩
    refine q _ fun b o n1 n2 e => ?_
    rw [upd_ne n2, upd_ne n1]
    exact s1 _ _ e
end
end Cry
/-! The order of pairs. -/
namespace Cry
open PySem PySem.Spec PyProof.Rows L2
def ltP (p q : Str × Str) : Bool := if p.1 = q.1 then ltS p.2 q.2 else ltS p.1 q.1
def pr (y : Way) : Str × Str := (y.1, y.2.1)
theorem pLt_ltP (a b : Str × Str) : PySem.W.dataLt (pD a) (pD b) = ltP a b := by
  rw [pLt, PySem.W.dataLt_str, PySem.W.dataLt_str]
  rfl
theorem ltP_same {p q : Str × Str} (h : p.1 = q.1) (l : ltS p.2 q.2 = true) : ltP p q = true := by
  unfold ltP
  rw [if_pos h]
  exact l
theorem ltP_less {p q : Str × Str} (l : ltS p.1 q.1 = true) : ltP p q = true := by
  unfold ltP
  have h : ¬ p.1 = q.1 := fun e => by
    rw [e] at l
    exact List.lt_irrefl _ (of_decide_eq_true l)
  rw [if_neg h]
  exact l
theorem ltS_tr {x y z : Str} (h1 : ltS x y = true) (h2 : ltS y z = true) : ltS x z = true := decide_eq_true (List.lt_trans (of_decide_eq_true h1) (of_decide_eq_true h2))
theorem ltS_ir (x : Str) : ltS x x = false := decide_eq_false (List.lt_irrefl _)
theorem ltP_ir (p : Str × Str) : ltP p p = false := by
  unfold ltP
  rw [if_pos rfl, ltS_ir]
theorem ltP_tr {p q r : Str × Str} (h1 : ltP p q = true) (h2 : ltP q r = true) : ltP p r = true := by
  unfold ltP at *
  by_cases e1 : p.1 = q.1
  · rw [if_pos e1] at h1
    by_cases e2 : q.1 = r.1
    · rw [if_pos e2] at h2
      rw [if_pos (e1.trans e2)]
      exact ltS_tr h1 h2
    · rw [if_neg e2] at h2
      rw [if_neg (by rw [e1]; exact e2), e1]
      exact h2
  · rw [if_neg e1] at h1
    by_cases e2 : q.1 = r.1
    · rw [if_neg (by rw [← e2]; exact e1), ← e2]
      exact h1
    · rw [if_neg e2] at h2
      have t := ltS_tr h1 h2
      by_cases e3 : p.1 = r.1
      · rw [e3, ltS_ir] at t
        cases t
      · rw [if_neg e3]
        exact t
theorem rise_pw : ∀ (ys : List Way), risingD (ys.map pairD) = true → (ys.map pr).Pairwise fun p q => ltP p q = true
  | [], _ => .nil
  | [_], _ => by simp
  | y :: z :: r, h => by
    have h' : (PySem.W.dataLt (pD (pr y)) (pD (pr z)) && risingD ((z :: r).map pairD)) = true := h
    rw [Bool.and_eq_true, pLt_ltP] at h'
    have ih := rise_pw (z :: r) h'.2
    rw [List.map_cons, List.pairwise_cons]
    refine ⟨fun q hq => ?_, ih⟩
    rw [List.map_cons, List.mem_cons] at hq
    rcases hq with rfl | hq
    · exact h'.1
    · rw [List.map_cons, List.pairwise_cons] at ih
      exact ltP_tr h'.1 (ih.1 q hq)
theorem pw_rise_pairs {ys : List Way} (h : (ys.map pr).Pairwise fun p q => ltP p q = true) : risingD (ys.map pairD) = true := by
  have e : ys.map pairD = (ys.map pr).map pD := by
    rw [List.map_map]
    rfl
  rw [e]
  refine rising_of (List.pairwise_map.mpr (h.imp fun {a b} k => ?_))
  rw [pLt_ltP]
  exact k
theorem rise_one : ∀ (as bs : List Way), ((as.map pr).Pairwise fun p q => ltP p q = true) → ((bs.map pr).Pairwise fun p q => ltP p q = true) → as.Perm bs → as = bs
  | [], bs, _, _, p => (List.nil_perm.mp p).symm
  | x :: xs, [], _, _, p => absurd p.length_eq (by simp)
  | x :: xs, y :: ys, h1, h2, p => by
    rw [List.map_cons, List.pairwise_cons] at h1 h2
    have exy : x = y := by
      have hx : x ∈ y :: ys := p.mem_iff.mp (List.mem_cons_self ..)
      have hy : y ∈ x :: xs := p.mem_iff.mpr (List.mem_cons_self ..)
      rcases List.mem_cons.mp hx with e | hx
      · exact e
      · rcases List.mem_cons.mp hy with e | hy
        · exact e.symm
        · have k1 := h2.1 (pr x) (List.mem_map.mpr ⟨x, hx, rfl⟩)
          have k2 := h1.1 (pr y) (List.mem_map.mpr ⟨y, hy, rfl⟩)
          have k3 := ltP_tr k1 k2
          rw [ltP_ir] at k3
          cases k3
    subst exy
    rw [rise_one xs ys h1.2 h2.2 ((List.perm_cons x).mp p)]
theorem pw_nd {ys : List Way} (h : (ys.map pr).Pairwise fun p q => ltP p q = true) : PairsNd ys := by
  refine h.imp fun {a b} k e => ?_
  rw [e, ltP_ir] at k
  cases k
/-- a web by rows that rise -/
theorem webOk_rows {names : List Str} {ways : List Way} {m : Nat} (N : NamesOk names m) (hm : m ≤ 60) (h : (ways.map pr).Pairwise fun p q => ltP p q = true) (each : ∀ y ∈ ways, y.1 ∈ names ∧ y.2.1 ∈ names ∧ ltS y.1 y.2.1 = true ∧ 1 ≤ y.2.2 ∧ y.2.2 ≤ 1000000000000) (hl : ways.length ≤ 150) : WebOk names ways ∧ PairsNd ways := by
  have inN : ∀ x ∈ names, inNames x names = true := fun x hx => by
    unfold inNames inV
    refine List.any_eq_true.mpr ⟨.str x, List.mem_map.mpr ⟨x, hx, rfl⟩, ?_⟩
    show decide (x = x) = true
    exact decide_eq_true rfl
  refine ⟨⟨N.ok, N.one, Nat.le_trans N.most hm, N.up, hl, fun y hy => ?_, pw_rise_pairs h⟩, pw_nd h⟩
  have k := each y hy
  exact ⟨N.ok _ k.1, N.ok _ k.2.1, k.2.2.2.1, k.2.2.2.2, inN _ k.1, inN _ k.2.1, k.2.2.1⟩
end Cry
/-! A web of very many ways, told right. -/
namespace Cry
open PySem PySem.Spec PyProof.Rows L2
/-- one way more -/
def spWithWay : Sp := fun vs H Q _ => ∃ (vw : V) (dw : PyData) (x y : Str) (b : Int), vs = [vw, .str x, .str y, .int b] ∧ Da H vw dw ∧ webD dw = true ∧ x ∈ folkOf dw ∧ y ∈ folkOf dw ∧ x ≠ y ∧ 1 ≤ b ∧ b ≤ 1000000000000 ∧ (∀ z ∈ waysOf dw, pr z ≠ (minS x y, maxS x y)) ∧ (waysOf dw).length < 150 ∧
  ∀ (T F W : Addr) (ws : List V) (ways' : List Way) (H' : Hp), Same H H' → H F = none → H W = none → H' T = some (.tup [.ref F, .ref W]) → H' F = some (.lst ((folkOf dw).map V.str)) → H' W = some (.lst ws) → Ims H' ws (ways'.map wayD3) →
    ways'.Perm ((minS x y, maxS x y, b) :: waysOf dw) → ((ways'.map pr).Pairwise fun p q => ltP p q = true) → Q (.ref T) H'
/-- one way less -/
def spWithout : Sp := fun vs H Q _ => ∃ (vw : V) (dw : PyData) (x y : Str), vs = [vw, .str x, .str y] ∧ Da H vw dw ∧ webD dw = true ∧ x ∈ folkOf dw ∧ y ∈ folkOf dw ∧ x ≠ y ∧ (∃ z ∈ waysOf dw, pr z = (minS x y, maxS x y)) ∧
  ∀ (T F W : Addr) (ws : List V) (H' : Hp), Same H H' → H F = none → H W = none → H' T = some (.tup [.ref F, .ref W]) → H' F = some (.lst ((folkOf dw).map V.str)) → H' W = some (.lst ws) → Ims H' ws (((waysOf dw).filter fun z => decide (pr z ≠ (minS x y, maxS x y))).map wayD3) → Q (.ref T) H'
theorem minS_lt {x y : Str} (h : ltS x y = true) : minS x y = x ∧ maxS x y = y ∧ minS y x = x ∧ maxS y x = y := by
  have h1 : x.cps.toList < y.cps.toList := of_decide_eq_true h
  have h2 : ¬ y.cps.toList < x.cps.toList := fun k => List.lt_irrefl _ (List.lt_trans h1 k)
  refine ⟨?_, ?_, ?_, ?_⟩
  · unfold minS
    rw [if_neg h2]
  · unfold maxS
    first | rw [if_pos h1] | rw [if_neg h2]
  · unfold minS
    rw [if_pos h1]
  · unfold maxS
    first | rw [if_neg h2] | rw [if_pos h1]
theorem webT_web {names : List Str} {ways : List Way} (wok : WebOk names ways) : webD (webT names ways) = true ∧ folkOf (webT names ways) = names ∧ waysOf (webT names ways) = ways := by
  have wf : WebForm names ways (webT names ways) := ⟨rfl, .list (names.map PyData.str), .list (ways.map wayD3), rfl, rfl, rfl, rfl, by show (ways.map wayD3).length = _; rw [List.length_map], fun i e y k1 k2 => by
    have k1' : (ways.map wayD3)[i]? = some e := k1
    rw [List.getElem?_map, k2] at k1'
    cases k1'
    exact ⟨rfl, rfl⟩⟩
  exact wf.web wok
theorem PairsNd.perm_nodup {full rest : List Way} {y : Way} (h : PairsNd full) (p : full.Perm (y :: rest)) : ∀ z ∈ rest, pr z ≠ (y.1, y.2.1) := fun z hz e => by
  have h2 : ((y :: rest).map pr).Nodup := (p.map pr).nodup_iff.mp h
  rw [List.map_cons, List.nodup_cons] at h2
  exact h2.1 (List.mem_map.mpr ⟨z, hz, e⟩)
section
variable {P : Program} {w : World} {K : PySem.W.Frag} {mg : Str → Option Value} {base : Heap}
abbrev nRFull : List Str := ["reel", "folk", "ways", "at", "spare", "less", "to", "way"]
theorem scRFull : FnScope nRFull ["reel"] (defScope sLFullRight) := ⟨rfl, rfl, rfl, by decide +kernel, rfl, by decide +kernel, by decide +kernel⟩
/-- what the law calls -/
structure PutDefs (P : Program) (w : World) (K : PySem.W.Frag) (mg : Str → Option Value) (base : Heap) where
  (fd fn ft fw fo : Addr)
  (dd dn dt dw do_ : FuncData)
  Bd : Def K mg "_law_draw" fd dd ["reel", "many"]
  Gd : FnOk P w K mg base CX0 1 fd dd ["reel", "many"] spRDraw
  Bn : Def K mg "_law_names" fn dn ["reel", "many"]
  Gn : FnOk P w K mg base CX0 2 fn dn ["reel", "many"] spRNames
  Bt : Def K mg "_law_told_right" ft dt ["found", "due"]
  Gt : FnG P w K mg base CX0 6 ft dt ["found", "due"] spRTold
  Bw : Def K mg "with_way" fw dw ["web", "one", "other", "beats"]
  Gw : FnOk P w K mg base CX0 8 fw dw ["web", "one", "other", "beats"] spWithWay
  Bo : Def K mg "without_way" fo do_ ["web", "one", "other"]
  Go : FnOk P w K mg base CX0 8 fo do_ ["web", "one", "other"] spWithout
def spRFull : Sp := fun vs H Q _ => ∃ (a g mm : Addr), vs = [.ref a] ∧ ReelAt H a g mm ∧ ∀ H', Q (.bl true) H'
theorem ok_rfull {f : Addr} {fd : FuncData} (F : Fun K "_law_full_right" "_law_full_right" sLFullRight f fd) (mL : mg "len" = none) (mR : mg "range" = none) (L : PutDefs P w K mg base) : FnG P w K mg base CX0 9 f fd ["reel"] spRFull := by
  refine okG F scRFull (fun vs H Q E h => ?_) (fun cdv A outer s H vs Q E hg hr h => ?_)
  · obtain ⟨a, g, mm, rfl, _⟩ := h
    rfl
  · obtain ⟨a, g, mm, rfl, R, q⟩ := h
    have hr1 := hr.mono (show 1 ≤ 8 by decide)
    have hr2 := hr.mono (show 2 ≤ 8 by decide)
    have hr6 := hr.mono (show 6 ≤ 8 by decide)
    refine ⟨_, pss_cons (ps_set (i := 1) scRFull.nd rfl (Or.inr rfl) (pe_call L.Gn hr2 (by rfl) L.Bn.at_ L.Bn.kp L.Bn.b .nil pass0 (pa_cons (pv 0) (pa_cons (pe_op op_add pe_int (pe_call L.Gd hr1 (by rfl) L.Bd.at_ L.Bd.kp L.Bd.b .nil pass0 (pa_cons (pv 0) (pa_cons pe_int pa_nil)))) pa_nil))))
    (pss_cons (ps_set (i := 2) scRFull.nd rfl (Or.inl rfl) (pe_lst pa_nil))
    (pss_cons (ps_for PassesOwn.never rfl (pi_range1 (by rfl) mR (pa_cons (pe_callB cr_lenS (by rfl) mL (by decide +kernel) (pa_cons (pv 1) pa_nil)) pa_nil)) (pg_name (i := 3) scRFull.nd rfl (Or.inr rfl)) (pss_one (ps_set (i := 2) scRFull.nd rfl (Or.inl rfl) (pe_op op_cat (pv 2) (pe_lc (own := [("to", 6)]) (g := gName 6) (tt := tYes) (te := tTup (tCons (tOp (rIxL K) (tVar 1) (tVar 3)) (tCons (tOp (rIxL K) (tVar 1) (tVar 6)) (tCons (tOp (rI0 fun i j => .int (i + j)) (tC (.int 1)) (tCall spRDraw [] E0 (tCons (tVar 0) (tCons (tC (.int 9)) tNil)))) tNil)))) rfl scRFull.nd
          (pi_range2 (by rfl) mR (pa_cons (pe_op op_add (pv 3) pe_int) (pa_cons (pe_callB cr_lenS (by rfl) mL (by decide +kernel) (pa_cons (pv 1) pa_nil)) pa_nil))) (blkOk_by (N := nRFull) (sc := defScope sLFullRight) (by decide +kernel)) (fun _ _ _ _ _ => pg_name (i := 6) scRFull.nd rfl (Or.inl rfl)) (fun _ _ _ _ _ => pts_nil)
          (fun _ _ _ _ _ => (pe_tup (pa_cons (pe_ix ix_list (pv 1) (pv 3) (fun _ _ => rfl)) (pa_cons (pe_ix ix_list (pv 1) (pv 6) (fun _ _ => rfl)) (pa_cons (pe_op op_add pe_int (pe_call L.Gd hr1 (by rfl) L.Bd.at_ L.Bd.kp L.Bd.b .nil pass0 (pa_cons (pv 0) (pa_cons pe_int pa_nil)))) pa_nil))))))))))
    (pss_cons (ps_set (i := 2) scRFull.nd rfl (Or.inl rfl) (pe_slice sl_list (pv 2) po_none (po_some pe_int)))
    (pss_cons (ps_set (i := 4) scRFull.nd rfl (Or.inr rfl) (pe_ix ix_list (pv 2) (pe_call L.Gd hr1 (by rfl) L.Bd.at_ L.Bd.kp L.Bd.b .nil pass0 (pa_cons (pv 0) (pa_cons pe_int pa_nil))) (fun _ _ => rfl)))
    (pss_cons (ps_set (i := 5) scRFull.nd rfl (Or.inl rfl) (pe_tup (pa_cons (pv 1) (pa_cons (pe_lc (own := [("way", 7)]) (g := gName 7) (tt := tTest (tOp (rNeD K) (tVar 7) (tVar 4))) (te := tVar 7) rfl scRFull.nd
          (pi_list (pv 2)) (blkOk_by (N := nRFull) (sc := defScope sLFullRight) (by decide +kernel)) (fun _ _ _ _ _ => pg_name (i := 7) scRFull.nd rfl (Or.inl rfl)) (fun _ _ _ _ _ => pts_one (pt_cmpR (op_neD hr.units) (pv 7) (pv 4) (nomark _))) (fun _ _ _ _ _ => pv 7)) pa_nil))))
    (pss_cons (ps_if (pt_not (pt_val (pe_callG L.Gt hg hr6 (by rfl) L.Bt.at_ L.Bt.kp L.Bt.b .nil pass0 (pa_cons (pe_call L.Gw hr (by rfl) L.Bw.at_ L.Bw.kp L.Bw.b .nil pass0 (pa_cons (pv 5) (pa_cons (pe_ix ix_tup (pv 4) pe_int (fun _ _ => rfl)) (pa_cons (pe_ix ix_tup (pv 4) pe_int (fun _ _ => rfl)) (pa_cons (pe_ix ix_tup (pv 4) pe_int (fun _ _ => rfl)) pa_nil))))) (pa_cons (pe_tup (pa_cons (pv 1) (pa_cons (pv 2) pa_nil))) pa_nil))))) (pss_one (ps_ret pe_bl)) pss_nil)
    (pss_one (ps_ret (pe_callG L.Gt hg hr6 (by rfl) L.Bt.at_ L.Bt.kp L.Bt.b .nil pass0 (pa_cons (pe_call L.Go hr (by rfl) L.Bo.at_ L.Bo.kp L.Bo.b .nil pass0 (pa_cons (pe_tup (pa_cons (pv 1) (pa_cons (pv 2) pa_nil))) (pa_cons (pe_ix ix_tup (pv 4) pe_int (fun _ _ => rfl)) (pa_cons (pe_ix ix_tup (pv 4) pe_int (fun _ _ => rfl)) pa_nil)))) (pa_cons (pv 5) pa_nil))))))))))), ?_⟩
    refine ⟨_, rfl, _, rfl, a, g, mm, 9, rfl, R, by decide, by decide, fun r g1 H1 r1 so1 fr1 R1 => ⟨_, _, rfl, rfl, ?_⟩⟩
    refine ⟨a, g1, mm, r + 18, ?_, R1, by omega, by omega, fun Nl names g2 H2 nNl so2 fr2 hNl NO inP lnm R2 nNa nNg nNm => ?_⟩
    · show [V.ref a, V.int (18 + (r : Int))] = [V.ref a, V.int ((r + 18 : Nat) : Int)]
      rw [show (18 : Int) + (r : Int) = ((r + 18 : Nat) : Int) by omega]
    have lnV : (names.map V.str).length = names.length := List.length_map ..
    have n18 : 18 ≤ names.length := by omega
    have n26 : names.length ≤ 26 := by omega
    have name_at : ∀ {j : Nat} (h : j < names.length), (names.map V.str)[j]? = some (.str names[j]) := fun {j} h => by
      rw [List.getElem?_map, List.getElem?_eq_getElem h]
      rfl
    have lt_of : ∀ {j1 j2 : Nat} (h : j1 < j2) (h2 : j2 < names.length), ltS (names[j1]'(by omega)) names[j2] = true := fun {j1 j2} h h2 => List.pairwise_iff_getElem.mp NO.pw j1 j2 (by omega) h2 h
    refine ⟨Nat.zero_le _, fun W0 nW0 => ?_⟩
    have R3 := R2.new (o := .lst []) nW0
    have hNl3 := same_new (o := .lst []) nW0 _ _ hNl
    have W0a := (R2.ne nW0).1
    have W0N : W0 ≠ Nl := by
      rintro rfl
      rw [hNl] at nW0
      cases nW0
    have hW0 : (upd H2 W0 (.lst [])) W0 = some (.lst []) := upd_same
    show tSeq _ _ _ _ (upd H2 W0 (.lst []))
    generalize (upd H2 W0 (.lst [])) = H3 at R3 hNl3 hW0 ⊢
    refine ⟨_, rfl, Nl, _, rfl, .inl (SqL.of hNl3), ((names.map V.str).length : Int), rfl, by omega, by omega, ?_⟩
    refine for_it (walk_range (lo := 0) (n := ((names.map V.str).length : Int).toNat)) (fun i σ H' => ∃ (u3 : Option V) (W g' : Addr) (ws : List V) (ways : List Way), σ = [some (.ref a), some (.ref Nl), some (.ref W), u3, none, none, none, none] ∧ ReelAt H' a g' mm ∧ H' Nl = some (.lst (names.map V.str)) ∧ H' W = some (.lst ws) ∧ W ≠ a ∧ Ims H' ws (ways.map wayD3) ∧
        ((ways.map pr).Pairwise fun p q => ltP p q = true) ∧ (∀ y ∈ ways, (∃ k, k < i ∧ names[k]? = some y.1) ∧ y.2.1 ∈ names ∧ ltS y.1 y.2.1 = true ∧ 1 ≤ y.2.2 ∧ y.2.2 ≤ 9) ∧ 2 * ways.length + i * i + i = 2 * (names.length * i))
      ⟨none, W0, g2, [], [], rfl, R3, hNl3, hW0, W0a, .nil, .nil, (fun y hy => nomatch hy), rfl⟩ (fun _ _ _ _ _ => True.intro) ?_ ?_
    · rintro i x σ H4 H5 hi ⟨u3, W, g4, ws, ways, rfl, R4, hN, hW, Wa, iW, pw, each, cnt⟩ ⟨rfl, rfl⟩
      rw [lnV] at hi
      have li : i < names.length := by omega
      have lws := iW.length
      rw [List.length_map] at lws
      have few : ways.length ≤ 2000 := by
        have h1 : names.length * i ≤ 26 * 26 := Nat.mul_le_mul n26 (by omega)
        omega
      refine ⟨_, rfl, _, rfl, _, _, rfl, rfl, _, rfl, Nl, _, rfl, .inl (SqL.of hN), 0 + (i : Nat) + 1, ((names.map V.str).length : Int), rfl, ⟨by omega, by omega, by omega, by omega⟩, fun D nD => ?_⟩
      obtain ⟨Da', Dg, Dm⟩ := R4.ne nD
      have WD : W ≠ D := by
        rintro rfl
        rw [nD] at hW
        cases hW
      refine lc_it (walk_range (lo := 0 + (i : Nat) + 1) (n := (((names.map V.str).length : Int) - (0 + (i : Nat) + 1)).toNat)) (fun t H' => ∃ (g' : Addr) (acc : List V) (rows : List Way), H' D = some (.lst acc) ∧ Ims H' acc (rows.map wayD3) ∧ rows.length = t ∧ ReelAt H' a g' mm ∧ D ≠ g' ∧ (∀ c o, c ≠ a → c ≠ D → H5 c = some o → H' c = some o) ∧ TS H5 H' ∧
          ((rows.map pr).Pairwise fun p q => ltP p q = true) ∧ ∀ y ∈ rows, names[i]? = some y.1 ∧ (∃ k, i < k ∧ k < i + 1 + t ∧ names[k]? = some y.2.1) ∧ 1 ≤ y.2.2 ∧ y.2.2 ≤ 9)
        ⟨g4, [], [], upd_same, .nil, rfl, R4.new nD, Dg, (fun c o _ _ e => same_new nD _ _ e), TS.new nD, .nil, (fun y hy => nomatch hy)⟩ (fun _ _ _ _ => True.intro) ?_ ?_
      · rintro t x H6 H7 ht ⟨g6, acc, rows, hacc, iA, lr, R6, Dg6, keep, ts, pwr, eachr⟩ ⟨rfl, rfl⟩
        rw [lnV] at ht
        have lk : i + 1 + t < names.length := by omega
        have hN7 := keep _ _ nNa (fun e => by rw [e] at hN; rw [hN] at nD; cases nD) hN
        have lacc := iA.length
        rw [List.length_map, lr] at lacc
        have e1 : (0 : Int) + (i : Nat) + 1 + (t : Nat) = ((i + 1 + t : Nat) : Int) := by omega
        have e0 : (0 : Int) + (i : Nat) = ((i : Nat) : Int) := by omega
        refine ⟨rfl, _, rfl, _, rfl, Nl, _, (0 : Int) + (i : Nat), _, rfl, rfl, SqL.of hN7, by rw [e0]; exact atI_nat (name_at li), _, rfl, _, rfl, Nl, _, (0 : Int) + (i : Nat) + 1 + (t : Nat), _, rfl, rfl, SqL.of hN7, by rw [e1]; exact atI_nat (name_at lk), ?_⟩
        refine ⟨_, rfl, a, g6, mm, 9, rfl, R6, by decide, by decide, fun r7 g8 H8 r7l so8 fr8 R8 => ⟨_, _, rfl, rfl, by show 3 ≤ sizeLine; decide, fun y ny => ?_⟩⟩
        have hacc8 := so8 _ _ Da' hacc
        have Dg8 : D ≠ g8 := by
          rcases fr8 with rfl | h
          · exact Dg6
          · rintro rfl
            rw [hacc] at h
            cases h
        have s9 := same_new (o := .tup [.str names[i], .str names[i + 1 + t], .int (1 + (r7 : Int))]) ny
        have hy9 : (upd H8 y (.tup [.str names[i], .str names[i + 1 + t], .int (1 + (r7 : Int))])) y = some (.tup [.str names[i], .str names[i + 1 + t], .int (1 + (r7 : Int))]) := upd_same
        have ts79 : TS H7 (upd H8 y (.tup [.str names[i], .str names[i + 1 + t], .int (1 + (r7 : Int))])) := (R6.ts so8).trans (TS.same s9)
        have hacc9 := s9 _ _ hacc8
        have R9 := R8.on s9
        have keep9 : ∀ c o, c ≠ a → c ≠ D → H5 c = some o → (upd H8 y (.tup [.str names[i], .str names[i + 1 + t], .int (1 + (r7 : Int))])) c = some o := fun c o n1 n2 e => s9 _ _ (so8 _ _ n1 (keep c o n1 n2 e))
        generalize (upd H8 y (.tup [.str names[i], .str names[i + 1 + t], .int (1 + (r7 : Int))])) = H9 at s9 hy9 ts79 hacc9 R9 keep9 ⊢
        have tsD : TS H9 (upd H9 D (.lst (acc ++ [.ref y]))) := TS.lst hacc9
        refine ⟨acc, hacc9, Nat.lt_of_lt_of_le (show acc.length < 100 by omega) (by decide), g8, acc ++ [.ref y], rows ++ [(names[i], names[i + 1 + t], 1 + (r7 : Int))], upd_same, ?_, by rw [List.length_append, lr]; rfl, R9.up Da' Dg8 Dm, Dg8, fun c o n1 n2 e => by rw [upd_ne n2]; exact keep9 c o n1 n2 e, (ts.trans ts79).trans tsD, ?_, ?_⟩
        · rw [List.map_append]
          exact ((iA.on ts79).append (.cons (way_im hy9) .nil)).on tsD
        · rw [List.map_append]
          refine List.pairwise_append.mpr ⟨pwr, List.pairwise_singleton _ _, fun p hp q hq => ?_⟩
          obtain ⟨z, hz, rfl⟩ := List.mem_map.mp hp
          obtain ⟨h1, ⟨k, k1, k2, ek⟩, _⟩ := eachr z hz
          rw [List.map_singleton, List.mem_singleton] at hq
          subst hq
          have kl : k < names.length := by omega
          rw [List.getElem?_eq_getElem li] at h1
          rw [List.getElem?_eq_getElem kl] at ek
          have ez1 : z.1 = names[i] := (Option.some.inj h1).symm
          have ez2 : z.2.1 = names[k] := (Option.some.inj ek).symm
          refine ltP_same ez1 ?_
          show ltS z.2.1 names[i + 1 + t] = true
          rw [ez2]
          exact lt_of k2 lk
        · intro z hz
          rcases List.mem_append.mp hz with h | h
          · obtain ⟨h1, ⟨k, k1, k2, ek⟩, h3⟩ := eachr z h
            exact ⟨h1, ⟨k, k1, by omega, ek⟩, h3⟩
          · rw [List.mem_singleton.mp h]
            exact ⟨List.getElem?_eq_getElem li, ⟨i + 1 + t, by omega, by omega, List.getElem?_eq_getElem lk⟩, by show 1 ≤ 1 + (r7 : Int); omega, by show 1 + (r7 : Int) ≤ 9; omega⟩
      · rintro H6 ⟨g6, acc, rows, hacc, iA, lr, R6, Dg6, keep, ts, pwr, eachr⟩
        have hN6 := keep _ _ nNa (fun e => by rw [e] at hN; rw [hN] at nD; cases nD) hN
        have hW6 := keep _ _ Wa WD hW
        have lacc := iA.length
        rw [List.length_map] at lacc
        have lr' : rows.length = names.length - (i + 1) := by
          rw [lr, lnV]
          omega
        refine ⟨W, D, _, _, rfl, rfl, hW6, hacc, Nat.le_trans (show ws.length + acc.length ≤ 5000 by omega) (by decide), fun W2 nW2 => ?_⟩
        have s7 := same_new (o := .lst (ws ++ acc)) nW2
        refine ⟨_, W2, g6, ws ++ acc, ways ++ rows, rfl, R6.new nW2, s7 _ _ hN6, upd_same, (R6.ne nW2).1, ?_, ?_, ?_, ?_⟩
        · rw [List.map_append]
          exact ((iW.on ts).append iA).on (TS.same s7)
        · rw [List.map_append]
          refine List.pairwise_append.mpr ⟨pw, pwr, fun p hp q hq => ?_⟩
          obtain ⟨z, hz, rfl⟩ := List.mem_map.mp hp
          obtain ⟨z2, hz2, rfl⟩ := List.mem_map.mp hq
          obtain ⟨⟨k, k1, ek⟩, _⟩ := each z hz
          obtain ⟨h1, _⟩ := eachr z2 hz2
          have kl : k < names.length := by omega
          rw [List.getElem?_eq_getElem li] at h1
          rw [List.getElem?_eq_getElem kl] at ek
          have ez1 : names[i] = z2.1 := Option.some.inj h1
          have ez2 : names[k] = z.1 := Option.some.inj ek
          have lt := lt_of k1 li
          refine ltP_less ?_
          show ltS z.1 z2.1 = true
          rw [← ez2, ← ez1]
          exact lt
        · intro z hz
          rcases List.mem_append.mp hz with h | h
          · obtain ⟨⟨k, k1, ek⟩, h2⟩ := each z h
            exact ⟨⟨k, by omega, ek⟩, h2⟩
          · obtain ⟨h1, ⟨k, k1, k2, ek⟩, h3, h4⟩ := eachr z h
            have kl : k < names.length := by
              have := (List.getElem?_eq_some_iff.mp ek).1
              exact this
            refine ⟨⟨i, by omega, h1⟩, List.mem_of_getElem? ek, ?_, h3, h4⟩
            rw [List.getElem?_eq_getElem li] at h1
            rw [List.getElem?_eq_getElem kl] at ek
            rw [← Option.some.inj h1, ← Option.some.inj ek]
            exact lt_of k1 kl
        · rw [List.length_append, lr']
          have h1 : names.length * (i + 1) = names.length * i + names.length := Nat.mul_succ _ _
          have h2 : (i + 1) * (i + 1) = i * i + i + i + 1 := by rw [Nat.add_mul, Nat.mul_add]; omega
          rw [h1, h2]
          omega
    · rintro σ H4 ⟨u3, W, g4, ws, ways, rfl, R4, hN, hW, Wa, iW, pw, each, cnt⟩
      rw [lnV] at cnt
      have lws := iW.length
      rw [List.length_map] at lws
      have l150 : 150 ≤ ways.length := by
        have e : ((names.length : Int)).toNat = names.length := by omega
        rw [e] at cnt
        have : names.length = 18 ∨ names.length = 19 ∨ names.length = 20 ∨ names.length = 21 ∨ names.length = 22 ∨ names.length = 23 ∨ names.length = 24 ∨ names.length = 25 ∨ names.length = 26 := by omega
        rcases this with h | h | h | h | h | h | h | h | h <;> rw [h] at cnt <;> omega
      -- the first hundred and fifty
      refine ⟨_, rfl, 150, rfl, W, _, rfl, SqL.of hW, fun W3 nW3 => ?_⟩
      rw [show (150 : Int) = ((150 : Nat) : Int) from rfl, cut_takeR]
      have iW3 : Ims H4 (ws.take 150) ((ways.take 150).map wayD3) := Ims.of (by rw [List.length_take, List.length_map, List.length_take]; omega) fun j v d e1 e2 => by
        rw [List.getElem?_take] at e1
        rw [List.getElem?_map, List.getElem?_take] at e2
        by_cases jl : j < 150
        · rw [if_pos jl] at e1 e2
          obtain ⟨d', ed, im⟩ := Ims.at iW e1
          rw [List.getElem?_map, e2] at ed
          cases ed
          exact im
        · rw [if_neg jl] at e1
          cases e1
      have pw3 : ((ways.take 150).map pr).Pairwise fun p q => ltP p q = true := by
        rw [List.map_take]
        exact pw.sublist (List.take_sublist _ _)
      have each3 : ∀ y ∈ ways.take 150, y.1 ∈ names ∧ y.2.1 ∈ names ∧ ltS y.1 y.2.1 = true ∧ 1 ≤ y.2.2 ∧ y.2.2 ≤ 1000000000000 := fun y hy => by
        obtain ⟨⟨k, _, ek⟩, h2, h3, h4, h5⟩ := each y (List.mem_of_mem_take hy)
        exact ⟨List.mem_of_getElem? ek, h2, h3, h4, by omega⟩
      have len3 : (ways.take 150).length = 150 := by rw [List.length_take]; omega
      have lws3 : (ws.take 150).length = 150 := by rw [List.length_take]; omega
      generalize ways.take 150 = full at iW3 pw3 each3 len3
      generalize ws.take 150 = wf at iW3 lws3 ⊢
      obtain ⟨wok, pn⟩ := webOk_rows NO (by omega) pw3 each3 (by omega)
      have s5 := same_new (o := .lst wf) nW3
      have hW5 : (upd H4 W3 (.lst wf)) W3 = some (.lst wf) := upd_same
      have W3a := (R4.ne nW3).1
      show tSeq _ _ _ _ (upd H4 W3 (.lst wf))
      generalize (upd H4 W3 (.lst wf)) = H5 at s5 hW5 ⊢
      have R5 := R4.on s5
      have hN5 := s5 _ _ hN
      have iW5 := iW3.on (TS.same s5)
      refine ⟨_, rfl, _, rfl, a, g4, mm, 150, rfl, R5, by decide, by decide, fun r6 g6 H6 r6l so6 fr6 R6 => ?_⟩
      have l6 : r6 < full.length := by omega
      have l6' : r6 < wf.length := by omega
      have hW6 := so6 _ _ W3a hW5
      have hN6 := so6 _ _ nNa hN5
      have iW6 := iW5.on (R5.ts so6)
      obtain ⟨d, ed, im⟩ := Ims.at iW6 (List.getElem?_eq_getElem l6')
      rw [List.getElem?_map, List.getElem?_eq_getElem l6] at ed
      cases ed
      obtain ⟨b, eb, hb⟩ := im_way im
      refine ⟨W3, _, _, .ref b, rfl, rfl, SqL.of hW6, atI_nat (by rw [List.getElem?_eq_getElem l6', eb]), ?_⟩
      have smem : full[r6] ∈ full := List.getElem_mem l6
      generalize full[r6] = spare at hb smem
      have nd : full.Nodup := List.Pairwise.of_map pr (fun a b h e => h (by rw [e])) pn
      have pm : full.Perm (spare :: full.filter fun z => decide (z ≠ spare)) := by
        have h1 := List.perm_cons_erase smem
        have h2 : full.erase spare = full.filter fun z => decide (z ≠ spare) := by
          rw [nd.erase_eq_filter]
          refine List.filter_congr fun z _ => ?_
          by_cases e : z = spare
          · rw [e]
            simp
          · rw [decide_eq_true e]
            simp [e]
        rw [h2] at h1
        exact h1
      have efilt : (full.filter fun z => decide (pr z ≠ (spare.1, spare.2.1))) = full.filter fun z => decide (z ≠ spare) := List.filter_congr fun z hz => by
        by_cases e : z = spare
        · rw [e]
          simp [pr]
        · have ne : pr z ≠ (spare.1, spare.2.1) := fun k => e (by
            have inj : ∀ (xs : List Way), PairsNd xs → ∀ x ∈ xs, ∀ y ∈ xs, pr x = pr y → x = y := fun xs h => by
              induction xs with
              | nil => exact fun x hx => nomatch hx
              | cons u us ih =>
                intro x hx y hy e
                have h' : (u.1, u.2.1) ∉ us.map (fun y => (y.1, y.2.1)) ∧ PairsNd us := List.nodup_cons.mp h
                rcases List.mem_cons.mp hx with e1 | hx2
                · rcases List.mem_cons.mp hy with e2 | hy2
                  · rw [e1, e2]
                  · exact absurd (List.mem_map.mpr ⟨y, hy2, by rw [← e, e1]⟩ : pr u ∈ us.map pr) h'.1
                · rcases List.mem_cons.mp hy with e2 | hy2
                  · exact absurd (List.mem_map.mpr ⟨x, hx2, by rw [e, e2]⟩ : pr u ∈ us.map pr) h'.1
                  · exact ih h'.2 x hx2 y hy2 e
            exact inj full pn z hz spare smem k)
          rw [decide_eq_true e, decide_eq_true ne]
      obtain ⟨sp1, sp2, sp3, sp4, sp5⟩ := each3 spare smem
      have pwl : ((full.filter fun z => decide (z ≠ spare)).map pr).Pairwise fun p q => ltP p q = true := pw3.sublist ((List.filter_sublist ..).map pr)
      have lenl : (full.filter fun z => decide (z ≠ spare)).length = 149 := by
        have := pm.length_eq
        rw [List.length_cons, len3] at this
        omega
      obtain ⟨wokl, _⟩ := webOk_rows NO (by omega) pwl (fun y hy => each3 y (List.mem_filter.mp hy).1) (by omega)
      -- less
      refine ⟨_, rfl, _, rfl, W3, rfl, ⟨_, SqL.of hW6⟩, fun D nD => ?_⟩
      refine lc_it (walk_list (K := K) (a := W3) (xs := wf)) (fun t H' => ∃ acc, H' D = some (.lst acc) ∧ Ims H' acc (((full.take t).filter fun z => decide (z ≠ spare)).map wayD3) ∧ Same H6 H')
        ⟨[], upd_same, .nil, same_new nD⟩ (fun i H' _ ⟨_, _, _, s⟩ => SqL.of (s _ _ hW6)) ?_ ?_
      · rintro t x H7 H8 ht ⟨acc, hacc, iA, s7⟩ ⟨rfl, ex⟩
        have tl : t < full.length := by omega
        obtain ⟨d, ed, imx⟩ := Ims.at (iW6.on (TS.same s7)) ex
        rw [List.getElem?_map, List.getElem?_eq_getElem tl] at ed
        cases ed
        have etk : full.take (t + 1) = full.take t ++ [full[t]] := by
          rw [List.take_add_one, List.getElem?_eq_getElem tl]
          rfl
        have ymem : full[t] ∈ full := List.getElem_mem tl
        generalize full[t] = y at imx etk ymem
        have triy := y3_sm wok y ymem
        have tris := y3_sm wok spare smem
        have lacc : acc.length ≤ 150 := by
          rw [iA.length, List.length_map]
          refine Nat.le_trans (List.length_filter_le _ _) ?_
          rw [List.length_take]
          omega
        refine ⟨rfl, _, rfl, _, rfl, wayD3 y, wayD3 spare, imx.dp, (way_im (s7 _ _ hb)).dp, (Sm.way triy).shaped (by decide), (Sm.way tris).shaped (by decide), _, rfl, ?_⟩
        rw [eqv_place]
        by_cases e : y = spare
        · rw [decide_eq_true e]
          refine iteF ⟨acc, hacc, ?_, s7⟩
          rw [etk, List.filter_append, show ([y].filter fun z => decide (z ≠ spare)) = [] by simp [e], List.append_nil]
          exact iA
        · rw [decide_eq_false e]
          refine iteT ⟨_, rfl, acc, hacc, Nat.lt_of_le_of_lt lacc (by decide), acc ++ [x], upd_same, ?_, same_at s7 nD⟩
          rw [etk, List.filter_append, show ([y].filter fun z => decide (z ≠ spare)) = [y] by simp [e], List.map_append]
          exact (iA.append (.cons imx .nil)).on (TS.lst hacc)
      · rintro H7 ⟨acc, hacc, iA, s7⟩
        rw [List.take_of_length_le (by omega)] at iA
        generalize full.filter (fun z => decide (z ≠ spare)) = rest at pm efilt pwl lenl wokl iA
        refine ⟨by show 2 ≤ sizeLine; decide, fun Tl nTl => ?_⟩
        have s8 := s7.trans (same_new (o := .tup [.ref Nl, .ref D]) nTl)
        have wl : WebAt (upd H7 Tl (.tup [.ref Nl, .ref D])) Tl names rest := ⟨Nl, D, acc, upd_same, same_new nTl _ _ (s7 _ _ hN6), same_new nTl _ _ hacc, iA.on (TS.new nTl)⟩
        show tSeq _ _ _ _ (upd H7 Tl (.tup [.ref Nl, .ref D]))
        generalize (upd H7 Tl (.tup [.ref Nl, .ref D])) = H8 at s8 wl ⊢
        have hb8 := s8 _ _ hb
        have dal := wl.dat wokl
        obtain ⟨el, efl, ewl⟩ := webT_web wokl
        obtain ⟨e0, ef0, ew0⟩ := webT_web wok
        obtain ⟨mn1, mx1, mn2, mx2⟩ := minS_lt sp3
        have nexy : spare.1 ≠ spare.2.1 := fun e => by
          rw [e, ltS_ir] at sp3
          cases sp3
        -- one way more
        refine ⟨_, rfl, _, rfl, b, _, 1, _, rfl, rfl, SqT.of hb8, atI_nat (j := 1) rfl, _, rfl, b, _, 0, _, rfl, rfl, SqT.of hb8, atI_nat (j := 0) rfl, _, rfl, b, _, 2, _, rfl, rfl, SqT.of hb8, atI_nat (j := 2) rfl, ?_⟩
        refine ⟨.ref Tl, webT names rest, spare.2.1, spare.1, spare.2.2, rfl, dal, el, by rw [efl]; exact sp2, by rw [efl]; exact sp1, Ne.symm nexy, sp4, sp5, ?_, by rw [ewl]; omega, fun T F W ws' ways' H9 s9 nF nW hT hF hW hI pm' pw' => ?_⟩
        · rw [ewl, mn2, mx2]
          intro z hz e
          have h1 := pn.perm_nodup pm
          exact h1 z hz e
        · rw [efl] at hF
          rw [ewl, mn2, mx2] at pm'
          obtain rfl : full = ways' := rise_one full ways' pw3 pw' (pm.trans pm'.symm)
          have s69 := s8.trans s9
          refine ⟨_, rfl, _, rfl, by show 2 ≤ sizeLine; decide, fun U nU => ?_⟩
          have s10 := same_new (o := .tup [.ref Nl, .ref W3]) nU
          have hU : WebAt (upd H9 U (.tup [.ref Nl, .ref W3])) U names full := ⟨Nl, W3, wf, upd_same, s10 _ _ (s69 _ _ hN6), s10 _ _ (s69 _ _ hW6), (iW6.on (TS.same s69)).on (TS.same s10)⟩
          have hT10 := s10 _ _ hT
          have hF10 := s10 _ _ hF
          have hW10 := s10 _ _ hW
          have hI10 := hI.on (TS.same s10)
          have s810 := s9.trans s10
          generalize (upd H9 U (.tup [.ref Nl, .ref W3])) = H10 at s10 hU hT10 hF10 hW10 hI10 s810 ⊢
          refine ⟨T, U, F, W, ws', names, full, rfl, hT10, hF10, hW10, hI10, hU, wok, fun H11 s11 => ⟨_, rfl, ?_⟩⟩
          refine iteF ?_
          have s811 : Same H8 H11 := fun c o e => by
            refine s11 c o ?_ ?_ (s810 c o e)
            · rintro rfl
              rw [nF] at e
              cases e
            · rintro rfl
              rw [nW] at e
              cases e
          -- one way less
          have hb11 := s811 _ _ hb8
          refine ⟨_, rfl, _, rfl, by show 2 ≤ sizeLine; decide, fun U2 nU2 => ?_⟩
          have s12 := same_new (o := .tup [.ref Nl, .ref W3]) nU2
          have s612 : Same H6 (upd H11 U2 (.tup [.ref Nl, .ref W3])) := (s8.trans s811).trans s12
          have hU2 : WebAt (upd H11 U2 (.tup [.ref Nl, .ref W3])) U2 names full := ⟨Nl, W3, wf, upd_same, s612 _ _ hN6, s612 _ _ hW6, iW6.on (TS.same s612)⟩
          have hb12 := s12 _ _ hb11
          have wl12 := wl.on (s811.trans s12)
          generalize (upd H11 U2 (.tup [.ref Nl, .ref W3])) = H12 at s12 s612 hU2 hb12 wl12 ⊢
          refine ⟨_, rfl, b, _, 0, _, rfl, rfl, SqT.of hb12, atI_nat (j := 0) rfl, _, rfl, b, _, 1, _, rfl, rfl, SqT.of hb12, atI_nat (j := 1) rfl, ?_⟩
          refine ⟨.ref U2, webT names full, spare.1, spare.2.1, rfl, hU2.dat wok, e0, by rw [ef0]; exact sp1, by rw [ef0]; exact sp2, nexy, ⟨spare, by rw [ew0]; exact smem, by rw [mn1, mx1]; rfl⟩, fun T2 F2 W2 ws2 H13 s13 nF2 nW2 hT2 hF2 hW2 hI2 => ?_⟩
          rw [ef0] at hF2
          rw [ew0, mn1, mx1, efilt] at hI2
          refine ⟨_, rfl, T2, Tl, F2, W2, ws2, names, rest, rfl, hT2, hF2, hW2, hI2, wl12.on s13, wokl, fun H14 _ => q H14⟩
end
end Cry
/-! min() and max() of a list of two texts. -/
namespace Cry
open PySem PySem.Spec PyProof.Rows L2
section
variable {prog : Program} {w : World} {A : Around} {E : Value → Shared → Prop} {s : Shared}
theorem list_kept {l : Addr} {h' : Heap} (hk : ∀ b o, b ∉ [s.heap.objs.size] → (s.heap.push { cls := .type "list_iterator", data := .fields #[.ref l, .int 0 0] }).get? b = some o → h'.get? b = some o) : ∀ b o, s.heap.get? b = some o → h'.get? b = some o := fun b o e => by
  refine hk b o (fun hm => ?_) (Heap.get?_push_of_some _ e)
  rcases List.mem_cons.mp hm with e1 | hm
  · have := Heap.lt_size e
    rw [e1] at this
    exact absurd this (Nat.lt_irrefl _)
  · cases hm
theorem max_list_str {l : Addr} {x y : Str} {t u : Tok} {Q : Value → Shared → Prop} (hh : A.handled = none) (hl : s.heap.IsList l #[.str x t, .str y u])
    (h : ∀ h' tk, (∀ c o, s.heap.get? c = some o → h'.get? c = some o) → Q (if x.cps.toList < y.cps.toList then .str y u else .str x t) { s with heap := h', toks := tk }) :
    wpAny (model prog w) A (call (.builtin "max") [.ref l]) Q E s := by
  have hlt : l < s.heap.objs.size := by obtain ⟨_, e, _⟩ := hl; exact Heap.lt_size e
  refine call_max_walk (wpAny_pyIter_list hl ?_)
  refine ⟨_, _, _, _, _, _, _, rfl, Walks.list (A := A.in1) hh _ l (Nat.ne_of_lt hlt) #[.str x t, .str y u], ⟨⟨_, Heap.get?_push_size _ rfl, rfl, rfl⟩, hl.push _⟩, fun b hb => ?_, by simp, strs_gt (twoS x y) twoS_val, fun v h' tk hP hk => ?_⟩
  · show b < (s.heap.push _).objs.size
    rw [Heap.size_push]
    rcases List.mem_cons.mp hb with rfl | hb
    · exact Nat.lt_succ_self _
    · rcases List.mem_cons.mp hb with rfl | hb
      · exact Nat.lt_succ_of_lt hlt
      · cases hb
  · refine (?_ : v = if x.cps.toList < y.cps.toList then Value.str y u else Value.str x t) ▸ h h' tk (list_kept hk)
    have hP' : (#[Value.str x t, Value.str y u] : Array Value)[argBest (fun i j => decide ((twoS x y j).cps.toList < (twoS x y i).cps.toList)) 1]? = some v := hP
    by_cases hc : x.cps.toList < y.cps.toList
    · rw [show argBest (fun i j => decide ((twoS x y j).cps.toList < (twoS x y i).cps.toList)) 1 = 1 from if_pos (decide_eq_true hc)] at hP'
      rw [if_pos hc]
      exact (Option.some.inj hP').symm
    · rw [show argBest (fun i j => decide ((twoS x y j).cps.toList < (twoS x y i).cps.toList)) 1 = 0 from if_neg fun z => hc (of_decide_eq_true z)] at hP'
      rw [if_neg hc]
      exact (Option.some.inj hP').symm
theorem min_list_str {l : Addr} {x y : Str} {t u : Tok} {Q : Value → Shared → Prop} (hh : A.handled = none) (hl : s.heap.IsList l #[.str x t, .str y u])
    (h : ∀ h' tk, (∀ c o, s.heap.get? c = some o → h'.get? c = some o) → Q (if y.cps.toList < x.cps.toList then .str y u else .str x t) { s with heap := h', toks := tk }) :
    wpAny (model prog w) A (call (.builtin "min") [.ref l]) Q E s := by
  have hlt : l < s.heap.objs.size := by obtain ⟨_, e, _⟩ := hl; exact Heap.lt_size e
  refine call_min_walk (wpAny_pyIter_list hl ?_)
  refine ⟨_, _, _, _, _, _, _, rfl, Walks.list (A := A.in1) hh _ l (Nat.ne_of_lt hlt) #[.str x t, .str y u], ⟨⟨_, Heap.get?_push_size _ rfl, rfl, rfl⟩, hl.push _⟩, fun b hb => ?_, by simp, strs_lt (twoS x y) twoS_val, fun v h' tk hP hk => ?_⟩
  · show b < (s.heap.push _).objs.size
    rw [Heap.size_push]
    rcases List.mem_cons.mp hb with rfl | hb
    · exact Nat.lt_succ_self _
    · rcases List.mem_cons.mp hb with rfl | hb
      · exact Nat.lt_succ_of_lt hlt
      · cases hb
  · refine (?_ : v = if y.cps.toList < x.cps.toList then Value.str y u else Value.str x t) ▸ h h' tk (list_kept hk)
    have hP' : (#[Value.str x t, Value.str y u] : Array Value)[argBest (fun i j => decide ((twoS x y i).cps.toList < (twoS x y j).cps.toList)) 1]? = some v := hP
    by_cases hc : y.cps.toList < x.cps.toList
    · rw [show argBest (fun i j => decide ((twoS x y i).cps.toList < (twoS x y j).cps.toList)) 1 = 1 from if_pos (decide_eq_true hc)] at hP'
      rw [if_pos hc]
      exact (Option.some.inj hP').symm
    · rw [show argBest (fun i j => decide ((twoS x y i).cps.toList < (twoS x y j).cps.toList)) 1 = 0 from if_neg fun z => hc (of_decide_eq_true z)] at hP'
      rw [if_neg hc]
      exact (Option.some.inj hP').symm
end
abbrev rTwoL (K : PySem.W.Frag) (f : Str → Str → Str) : List V → Hp → VK → Prop := fun xs H Q => ∃ (l : Addr) (x y : Str), xs = [.ref l] ∧ SqL K H l [.str x, .str y] ∧ Q (.str (f x y)) H
theorem two_items {x y : Str} {its : List Value} (h : Vals [.str x, .str y] its) : ∃ t u, its = [.str x t, .str y u] := by
  cases h with
  | cons h1 t1 =>
    cases t1 with
    | cons h2 t2 =>
      cases t2
      obtain ⟨t, rfl⟩ := h1
      obtain ⟨u, rfl⟩ := h2
      exact ⟨t, u, rfl⟩
theorem cr_maxL {X : Cx} (hc : X.calm = true) : CallR X (.builtin "max") (rTwoL X.K maxS) := by
  intro pins s σ H vs us Q I r h
  obtain ⟨a, x, y, rfl, hs, q⟩ := h
  obtain ⟨its, rv, hl, _⟩ := I.list hs
  rw [Vals.ref1 r]
  obtain ⟨t, u, rfl⟩ := two_items rv
  refine max_list_str (I.ok.hd hc) hl.isList fun h' tk k => ⟨_, H, I.kept k, ?_, q⟩
  unfold maxS
  by_cases hj : x.cps.toList < y.cps.toList
  · rw [if_pos hj, if_pos hj]; exact ⟨_, rfl⟩
  · rw [if_neg hj, if_neg hj]; exact ⟨_, rfl⟩
theorem cr_minL {X : Cx} (hc : X.calm = true) : CallR X (.builtin "min") (rTwoL X.K minS) := by
  intro pins s σ H vs us Q I r h
  obtain ⟨a, x, y, rfl, hs, q⟩ := h
  obtain ⟨its, rv, hl, _⟩ := I.list hs
  rw [Vals.ref1 r]
  obtain ⟨t, u, rfl⟩ := two_items rv
  refine min_list_str (I.ok.hd hc) hl.isList fun h' tk k => ⟨_, H, I.kept k, ?_, q⟩
  unfold minS
  by_cases hj : y.cps.toList < x.cps.toList
  · rw [if_pos hj, if_pos hj]; exact ⟨_, rfl⟩
  · rw [if_neg hj, if_neg hj]; exact ⟨_, rfl⟩
end Cry
/-! k37's law. -/
namespace Cry
open PySem PySem.Spec PyProof.Rows L2
abbrev aaR : Str := "aaaaaaaa"
theorem w3LtR (a b : Way) (h : (a.1, a.2.1) ≠ (b.1, b.2.1)) : PySem.W.dataLt (wayD3 a) (wayD3 b) = PySem.W.dataLt (pairD a) (pairD b) := by
  have e : PySem.W.dataLt (pairD a) (pairD b) = if a.1 = b.1 then PySem.W.dataLt (.str a.2.1) (.str b.2.1) else PySem.W.dataLt (.str a.1) (.str b.1) := pLt (a.1, a.2.1) (b.1, b.2.1)
  rw [e]
  unfold wayD3
  rw [PySem.W.dataLt_tuple, PySem.W.dataLt_cons rfl, PySem.W.dataLt_cons rfl, eqv_str, eqv_str]
  by_cases h1 : a.1 = b.1
  · have h2 : a.2.1 ≠ b.2.1 := fun z => h (Prod.ext h1 z)
    rw [if_pos (decide_eq_true h1), if_pos h1, if_neg (by rw [decide_eq_false h2]; decide)]
  · rw [if_neg (by rw [decide_eq_false h1]; decide), if_neg h1]
theorem sorted_rise {zs : List Way} (nd : PairsNd zs) : risingD ((sortB wayD3 zs).map pairD) = true := by
  have nd2 : PairsNd (sortB wayD3 zs) := ((sortB_perm wayD3 zs).map _).nodup_iff.mpr nd
  have so : (sortB wayD3 zs).Pairwise fun x y => PySem.W.dataLe false wayD3 x y = true := PySem.W.sort_pairwise (PySem.W.sortLe_total _ _ _) _
  refine rising_of (List.pairwise_map.mpr ?_)
  have nd3 : (sortB wayD3 zs).Pairwise fun a b => (a.1, a.2.1) ≠ (b.1, b.2.1) := List.pairwise_map.mp nd2
  rw [PySem.W.dataLe_eq] at so
  refine (so.and nd3).imp fun {a b} hh => ?_
  have h1 : PySem.W.dataLt (wayD3 b) (wayD3 a) = false := by
    have := hh.1
    simpa using this
  rw [w3LtR _ _ (Ne.symm hh.2)] at h1
  exact ord_pair.tri (a.1, a.2.1) (b.1, b.2.1) hh.2 h1
theorem min_of (x y : Str) : (minS x y = x ∨ minS x y = y) ∧ (maxS x y = x ∨ maxS x y = y) := by
  constructor
  · unfold minS
    split
    · exact .inr rfl
    · exact .inl rfl
  · unfold maxS
    split
    · exact .inr rfl
    · exact .inl rfl
theorem min_lt_max {x y : Str} (n : x ≠ y) : ltS (minS x y) (maxS x y) = true := by
  by_cases h : x.cps.toList < y.cps.toList
  · obtain ⟨a, b, _, _⟩ := minS_lt (decide_eq_true h : ltS x y = true)
    rw [a, b]
    exact decide_eq_true h
  · have h2 : ltS y x = true := decide_eq_true (nat_lt_of h fun e => n (str_ext e.symm))
    obtain ⟨_, _, c, d⟩ := minS_lt h2
    rw [c, d]
    exact h2
theorem pr_inj : ∀ (xs : List Way), PairsNd xs → ∀ x ∈ xs, ∀ y ∈ xs, pr x = pr y → x = y := fun xs h => by
  induction xs with
  | nil => exact fun x hx => nomatch hx
  | cons u us ih =>
    intro x hx y hy e
    have h' : (u.1, u.2.1) ∉ us.map (fun y => (y.1, y.2.1)) ∧ PairsNd us := List.nodup_cons.mp h
    rcases List.mem_cons.mp hx with e1 | hx2
    · rcases List.mem_cons.mp hy with e2 | hy2
      · rw [e1, e2]
      · exact absurd (List.mem_map.mpr ⟨y, hy2, by rw [← e, e1]⟩ : pr u ∈ us.map pr) h'.1
    · rcases List.mem_cons.mp hy with e2 | hy2
      · exact absurd (List.mem_map.mpr ⟨x, hx2, by rw [e, e2]⟩ : pr u ∈ us.map pr) h'.1
      · exact ih h'.2 x hx2 y hy2 e
/-- one way out of them -/
theorem ways_less {full : List Way} {spare : Way} (pn : PairsNd full) (smem : spare ∈ full) : full.Nodup ∧ full.Perm (spare :: full.filter fun z => decide (z ≠ spare)) ∧ (full.filter fun z => decide (pr z ≠ (spare.1, spare.2.1))) = full.filter fun z => decide (z ≠ spare) := by
  have nd : full.Nodup := List.Pairwise.of_map pr (fun a b h e => h (by rw [e])) pn
  refine ⟨nd, ?_, List.filter_congr fun z hz => ?_⟩
  · have h1 := List.perm_cons_erase smem
    have h2 : full.erase spare = full.filter fun z => decide (z ≠ spare) := by
      rw [nd.erase_eq_filter]
      refine List.filter_congr fun z _ => ?_
      by_cases e : z = spare
      · rw [e]
        simp
      · rw [decide_eq_true e]
        simp [e]
    rw [h2] at h1
    exact h1
  · by_cases e : z = spare
    · rw [e]
      simp [pr]
    · have ne : pr z ≠ (spare.1, spare.2.1) := fun k => e (pr_inj full pn z hz spare smem k)
      rw [decide_eq_true e, decide_eq_true ne]
theorem told_same {H0 H H' : Hp} {F W : Addr} (s : Same H0 H) (nF : H0 F = none) (nW : H0 W = none) (s2 : Same2 F W H H') : Same H0 H' := fun c o e => by
  refine s2 c o ?_ ?_ (s c o e)
  · rintro rfl
    rw [nF] at e
    cases e
  · rintro rfl
    rw [nW] at e
    cases e
theorem seq_o {t u : L2.TS} {D : Ends} {σ : Slots} {H : Hp} (h : t { D with nx := u D } σ H) : tSeq t u D σ H := h
theorem minS_com {x y : Str} (n : x ≠ y) : minS y x = minS x y ∧ maxS y x = maxS x y := by
  have h : ltS x y = true ∨ ltS y x = true := by
    by_cases h : x.cps.toList < y.cps.toList
    · exact .inl (decide_eq_true h)
    · exact .inr (decide_eq_true (nat_lt_of h fun e => n (str_ext e.symm)))
  rcases h with h | h
  · obtain ⟨a, b, c, d⟩ := minS_lt h
    rw [a, b, c, d]
    exact ⟨rfl, rfl⟩
  · obtain ⟨a, b, c, d⟩ := minS_lt h
    rw [a, b, c, d]
    exact ⟨rfl, rfl⟩
/-- what is handed in reads alike, whatever is drawn -/
theorem WebV.steady {H : Hp} {a g m : Addr} {v : V} {names : List Str} {ways : List Way} (h : WebV H v names ways) (R : ReelAt H a g m) (wok : WebOk names ways) : ∃ d, WebForm names ways d ∧ Sm 50000 3 d ∧ ∀ H', SameO a H H' → Da H' v d := by
  have so : SameO a H (fun b => if b = a then none else H b) := fun b o n e => by
    show (if b = a then none else H b) = some o
    rw [if_neg n]
    exact e
  obtain ⟨d, da, wf, sm⟩ := (h.soR R so).data wok
  refine ⟨d, wf, sm, fun H' so' => da.on fun b o e => ?_⟩
  have e' : (if b = a then none else H b) = some o := e
  by_cases n : b = a
  · rw [if_pos n] at e'
    cases e'
  · rw [if_neg n] at e'
    exact so' b o n e'
theorem shaped_strsR {xs : List Str} (ok : ∀ x ∈ xs, nameOkS x = true) (few : xs.length ≤ 1000) : SeqAt.shaped (.list (xs.map PyData.str)) = true := by
  refine Sm.shaped (Sm.list (B := 8) (k := 0) (C := 10000) (fun e he => ?_) ?_) (by decide)
  · obtain ⟨x, hx, rfl⟩ := List.mem_map.mp he
    exact Sm.str (ok x hx)
  · rw [List.length_map]
    omega
theorem strs_dpR {K : PySem.W.Frag} {H : Hp} {l : Addr} {xs : List Str} (h : H l = some (.lst (xs.map V.str))) : Dp K H (.ref l) (.list (xs.map PyData.str)) := .lst (SqL.of h) (Ims.strs xs).dp
theorem minS_okR {x y : Str} (h1 : nameOkS x = true) (h2 : nameOkS y = true) : nameOkS (minS x y) = true ∧ nameOkS (maxS x y) = true := by
  unfold minS maxS
  constructor <;> split <;> assumption
theorem sort_two {x y : Str} (n : x ≠ y) : sortB PyData.str [x, y] = [minS x y, maxS x y] := by
  have nd : [x, y].Nodup := by simp [n]
  have pm := sortB_perm PyData.str [x, y]
  have pw := sortS_pw nd
  generalize sortB PyData.str [x, y] = zs at pm pw
  match zs, pm, pw with
  | [], pm, _ => exact absurd pm.length_eq (by simp)
  | [_], pm, _ => exact absurd pm.length_eq (by simp)
  | _ :: _ :: _ :: _, pm, _ => exact absurd pm.length_eq (by simp)
  | [u, v], pm, pw =>
    have lt : ltS u v = true := (List.pairwise_cons.mp pw).1 v (by simp)
    have hu : u = x ∨ u = y := by simpa using pm.mem_iff.mp (List.mem_cons_self ..)
    have hv : v = x ∨ v = y := by simpa using pm.mem_iff.mp (List.mem_cons_of_mem _ (List.mem_singleton.mpr rfl))
    rcases hu with rfl | rfl
    · rcases hv with rfl | rfl
      · rw [ltS_ir] at lt
        cases lt
      · rw [(minS_lt lt).1, (minS_lt lt).2.1]
    · rcases hv with rfl | rfl
      · rw [(minS_lt lt).2.2.1, (minS_lt lt).2.2.2]
      · rw [ltS_ir] at lt
        cases lt
theorem eqv_two (a b c d : Str) : PyData.eqv (.list ([a, b].map PyData.str)) (.list ([c, d].map PyData.str)) = decide ((a, b) = (c, d)) := by
  have h : PyData.eqv (.list ([a, b].map PyData.str)) (.list ([c, d].map PyData.str)) = (PyData.eqv (.str a) (.str c) && (PyData.eqv (.str b) (.str d) && true)) := rfl
  rw [h, eqv_str, eqv_str, Bool.and_true]
  by_cases e1 : a = c
  · by_cases e2 : b = d
    · rw [e1, e2]
      simp
    · simp [e1, e2]
  · simp [e1]
theorem inNames_iff {x : Str} {names : List Str} : inNames x names = true ↔ x ∈ names := by
  unfold inNames inV
  rw [List.any_eq_true]
  constructor
  · rintro ⟨v, hv, e⟩
    obtain ⟨y, hy, rfl⟩ := List.mem_map.mp hv
    have : decide (y = x) = true := e
    rw [← of_decide_eq_true this]
    exact hy
  · intro h
    exact ⟨.str x, List.mem_map.mpr ⟨x, h, rfl⟩, show decide (x = x) = true from decide_eq_true rfl⟩
section
variable {P : Program} {w : World} {K : PySem.W.Frag} {mg : Str → Option Value} {base : Heap}
abbrev nRLaw : List Str := ["script", "reel", "k", "web", "one", "other", "pair", "there", "handed", "kept", "less", "beats", "grown", "way"]
theorem scRLaw : FnScope nRLaw ["script"] (defScope sLaw) := ⟨rfl, rfl, rfl, by decide +kernel, rfl, by decide +kernel, by decide +kernel⟩
structure SortR (K : PySem.W.Frag) (vs : List V) (H : Hp) (Q : VK) : Prop where
  h : rSortedD K vs H Q
theorem cr_sortedDR {X : Cx} (hu : X.A.units + 64 < cLine) : CallR X (.builtin "sorted") (SortR X.K) := fun pins s σ H vs us Q I r h => cr_sortedD hu pins s σ H vs us Q I r h.h
theorem sortD_rows (zs : List Way) : sortD (zs.map wayD3) = (sortB wayD3 zs).map wayD3 := by
  have t := PySem.W.sort_maps (r := PySem.W.dataLe false (wayD3 : Way → PyData)) (s := PySem.W.dataLe false id) wayD3 (l := zs) (fun _ _ _ _ => rfl)
  unfold sortD sortB
  first | exact t.symm | exact t
theorem sorted_rows {H : Hp} {l0 : Addr} {us0 : List V} {zs : List Way} {Q : VK} (hl : H l0 = some (.lst us0)) (im : Ims H us0 (zs.map wayD3)) (k : ∀ l us, H l = none → Ims (upd H l (.lst us)) us ((sortB wayD3 zs).map wayD3) → Q (.ref l) (upd H l (.lst us))) : SortR K [.ref l0] H Q := by
  have hl2 := im.length
  rw [List.length_map] at hl2
  have ef : (us0.zip (zs.map wayD3)).map Prod.fst = us0 := List.map_fst_zip (by rw [List.length_map]; omega)
  have es : (us0.zip (zs.map wayD3)).map Prod.snd = zs.map wayD3 := List.map_snd_zip (by rw [List.length_map]; omega)
  refine ⟨⟨l0, us0.zip (zs.map wayD3), rfl, by rw [ef]; exact SqL.of hl, im.pairs, by rw [es]; exact places_alike _, by rw [es]; exact places_sortable _, fun b hb' => ?_, fun r nr => ?_⟩⟩
  · have : b.2 ∈ zs.map wayD3 := by
      rw [← es]
      exact List.mem_map.mpr ⟨b, hb', rfl⟩
    obtain ⟨y, _, e⟩ := List.mem_map.mp this
    rw [← e]
    exact place_depth y
  · have h := (sorted_ims im).on (TS.new (o := .lst (((us0.zip (zs.map wayD3)).mergeSort (PySem.W.dataLe false Prod.snd)).map Prod.fst)) nr)
    rw [sortD_rows] at h
    exact k r _ nr h
def spLaw (K : PySem.W.Frag) : Sp := fun vs H Q _ => ∃ (a : Addr) (ns : List Int), vs = [.ref a] ∧ SqL K H a (ns.map V.int) ∧ ns.length ≤ sizeLine ∧ ∀ H', Q (.bl true) H'
structure MoreDefs (P : Program) (w : World) (K : PySem.W.Frag) (mg : Str → Option Value) (base : Heap) where
  (fr fw fd ff : Addr)
  (dr dw dd df : FuncData)
  Br : Def K mg "_law_reel" fr dr ["script"]
  Gr : FnOk P w K mg base CX0 1 fr dr ["script"] (spReel K)
  Bw : Def K mg "_law_web" fw dw ["reel", "most", "wide"]
  Gw : FnOk P w K mg base CX0 3 fw dw ["reel", "most", "wide"] spRWeb
  Bd : Def K mg "_law_dressed_web" fd dd ["reel", "web"]
  Gd : FnOk P w K mg base CX0 2 fd dd ["reel", "web"] spRDress
  Bf : Def K mg "_law_full_right" ff df ["reel"]
  Gf : FnG P w K mg base CX0 9 ff df ["reel"] spRFull
theorem ok_law {f : Addr} {fd : FuncData} (F : Fun K "law" "law" sLaw f fd) (mL : mg "len" = none) (mR : mg "range" = none) (mN : mg "min" = none) (mX : mg "max" = none) (mP : mg "repr" = none) (mS : mg "sorted" = none) (mT : mg "set" = none) (mI : mg "int" = none) (L : PutDefs P w K mg base) (M : MoreDefs P w K mg base) : FnG P w K mg base CX0 10 f fd ["script"] (spLaw K) := by
  refine okG F scRLaw (fun vs H Q E h => ?_) (fun cdv A outer s H vs Q E hg hr h => ?_)
  · obtain ⟨a, ns, rfl, _⟩ := h
    rfl
  · obtain ⟨a0, ns, rfl, hS, nl0, q⟩ := h
    have hr1 := hr.mono (show 1 ≤ 9 by decide)
    have hr2 := hr.mono (show 2 ≤ 9 by decide)
    have hr3 := hr.mono (show 3 ≤ 9 by decide)
    have hr6 := hr.mono (show 6 ≤ 9 by decide)
    have hr8 := hr.mono (show 8 ≤ 9 by decide)
    refine ⟨_, pss_cons (ps_set (i := 1) scRLaw.nd rfl (Or.inl rfl) (pe_call M.Gr hr1 (by rfl) M.Br.at_ M.Br.kp M.Br.b .nil pass0 (pa_cons (pv 0) pa_nil)))
    (pss_cons (ps_for PassesOwn.never rfl (pi_range1 (by rfl) mR (pa_cons (pe_op op_add pe_int (pe_callB (call_min2 rfl) (by rfl) mN (by decide +kernel) (pa_cons (pe_callB cr_lenS (by rfl) mL (by decide +kernel) (pa_cons (pv 0) pa_nil)) (pa_cons pe_int pa_nil)))) pa_nil)) (pg_name (i := 2) scRLaw.nd rfl (Or.inl rfl)) (pss_cons (ps_set (i := 3) scRLaw.nd rfl (Or.inl rfl) (pe_call M.Gw hr3 (by rfl) M.Bw.at_ M.Bw.kp M.Bw.b .nil pass0 (pa_cons (pv 1) (pa_cons pe_int (pa_cons (pe_op op_pow pe_int pe_int) pa_nil)))))
      (pss_cons (ps_set (i := 3) scRLaw.nd rfl (Or.inl rfl) (pe_tup (pa_cons (pe_callB (cr_sortedK rfl hr.units) (by rfl) mS (by decide +kernel) (pa_cons (pe_callTy (cr_setK rfl) (by rfl) mT (by decide +kernel) (pa_cons (pe_op op_cat (pe_ix ix_tup (pv 3) pe_int (fun _ _ => rfl)) (pe_lst (pa_cons pe_str pa_nil))) pa_nil)) pa_nil)) (pa_cons (pe_ix ix_tup (pv 3) pe_int (fun _ _ => rfl)) pa_nil))))
      (pss_cons (ps_par rfl scRLaw.nd (i := 4) (j := 5) rfl rfl (by decide) rfl rfl (pa_cons (pe_call L.Gd hr1 (by rfl) L.Bd.at_ L.Bd.kp L.Bd.b .nil pass0 (pa_cons (pv 1) (pa_cons (pe_callB cr_lenS (by rfl) mL (by decide +kernel) (pa_cons (pe_ix ix_tup (pv 3) pe_int (fun _ _ => rfl)) pa_nil)) pa_nil))) (pa_cons (pe_call L.Gd hr1 (by rfl) L.Bd.at_ L.Bd.kp L.Bd.b .nil pass0 (pa_cons (pv 1) (pa_cons (pe_op op_sub (pe_callB cr_lenS (by rfl) mL (by decide +kernel) (pa_cons (pe_ix ix_tup (pv 3) pe_int (fun _ _ => rfl)) pa_nil)) pe_int) pa_nil))) pa_nil)) (by rfl))
      (pss_cons (ps_set (i := 5) scRLaw.nd rfl (Or.inl rfl) (pe_op op_add (pv 5) (pe_callTy call_int1 (by rfl) mI (by decide +kernel) (pa_cons (pe_cmpR op_ge (pv 5) (pv 4) (nomark _)) pa_nil))))
      (pss_cons (ps_set (i := 6) scRLaw.nd rfl (Or.inr rfl) (pe_lst (pa_cons (pe_ix ix_list (pe_ix ix_tup (pv 3) pe_int (fun _ _ => rfl)) (pv 4) (fun _ _ => rfl)) (pa_cons (pe_ix ix_list (pe_ix ix_tup (pv 3) pe_int (fun _ _ => rfl)) (pv 5) (fun _ _ => rfl)) pa_nil))))
      (pss_cons (ps_set (i := 7) scRLaw.nd rfl (Or.inr rfl) (pe_lc (own := [("way", 13)]) (g := gName 13) (tt := tTest (tOp (rEqD K) (tLst (tCons (tOp (rIxT K) (tVar 13) (tC (.int 0))) (tCons (tOp (rIxT K) (tVar 13) (tC (.int 1))) tNil))) (tCB (rSortedT K) (tCons (tVar 6) tNil)))) (te := tVar 13) rfl scRLaw.nd
          (pi_list (pe_ix ix_tup (pv 3) pe_int (fun _ _ => rfl))) (blkOk_by (N := nRLaw) (sc := defScope sLaw) (by decide +kernel)) (fun _ _ _ _ _ => pg_name (i := 13) scRLaw.nd rfl (Or.inl rfl))
          (fun _ _ _ _ _ => pts_one (pt_cmpR (op_eqD hr.units) (pe_lst (pa_cons (pe_ix ix_tup (pv 13) pe_int (fun _ _ => rfl)) (pa_cons (pe_ix ix_tup (pv 13) pe_int (fun _ _ => rfl)) pa_nil))) (pe_callB (cr_sortedT hr.units) (by rfl) mS (by decide +kernel) (pa_cons (pv 6) pa_nil)) (nomark _))) (fun _ _ _ _ _ => pv 13)))
      (pss_cons (ps_set (i := 8) scRLaw.nd rfl (Or.inl rfl) (pe_call M.Gd hr2 (by rfl) M.Bd.at_ M.Bd.kp M.Bd.b .nil pass0 (pa_cons (pv 1) (pa_cons (pv 3) pa_nil))))
      (pss_cons (ps_set (i := 9) scRLaw.nd rfl (Or.inl rfl) (pe_callB (cr_reprR hg hr.units) (by rfl) mP (by decide +kernel) (pa_cons (pv 8) pa_nil)))
      (pss_cons (ps_if (pt_cmpR (op_neD hr.units) (pv 7) (pe_lst pa_nil) (nomark _)) (pss_cons (ps_set (i := 10) scRLaw.nd rfl (Or.inl rfl) (pe_tup (pa_cons (pe_ix ix_tup (pv 3) pe_int (fun _ _ => rfl)) (pa_cons (pe_lc (own := [("way", 13)]) (g := gName 13) (tt := tTest (tOp (rNeD K) (tVar 13) (tOp (rIxL K) (tVar 7) (tC (.int 0))))) (te := tVar 13) rfl scRLaw.nd
          (pi_list (pe_ix ix_tup (pv 3) pe_int (fun _ _ => rfl))) (blkOk_by (N := nRLaw) (sc := defScope sLaw) (by decide +kernel)) (fun _ _ _ _ _ => pg_name (i := 13) scRLaw.nd rfl (Or.inl rfl)) (fun _ _ _ _ _ => pts_one (pt_cmpR (op_neD hr.units) (pv 13) (pe_ix ix_list (pv 7) pe_int (fun _ _ => rfl)) (nomark _))) (fun _ _ _ _ _ => pv 13)) pa_nil))))
          (pss_cons (ps_if (pt_not (pt_val (pe_callG L.Gt hg hr6 (by rfl) L.Bt.at_ L.Bt.kp L.Bt.b .nil pass0 (pa_cons (pe_call L.Go hr8 (by rfl) L.Bo.at_ L.Bo.kp L.Bo.b .nil pass0 (pa_cons (pv 8) (pa_cons (pe_ix ix_list (pv 6) pe_int (fun _ _ => rfl)) (pa_cons (pe_ix ix_list (pv 6) pe_int (fun _ _ => rfl)) pa_nil)))) (pa_cons (pv 10) pa_nil))))) (pss_one (ps_ret pe_bl)) pss_nil)
          (pss_one (ps_if (pt_not (pt_val (pe_callG L.Gt hg hr6 (by rfl) L.Bt.at_ L.Bt.kp L.Bt.b .nil pass0 (pa_cons (pe_call L.Gw hr8 (by rfl) L.Bw.at_ L.Bw.kp L.Bw.b .nil pass0 (pa_cons (pv 10) (pa_cons (pe_ix ix_list (pv 6) pe_int (fun _ _ => rfl)) (pa_cons (pe_ix ix_list (pv 6) pe_int (fun _ _ => rfl)) (pa_cons (pe_ix ix_tup (pe_ix ix_list (pv 7) pe_int (fun _ _ => rfl)) pe_int (fun _ _ => rfl)) pa_nil))))) (pa_cons (pv 3) pa_nil))))) (pss_one (ps_ret pe_bl)) pss_nil)))) (pss_cons (ps_set (i := 11) scRLaw.nd rfl (Or.inl rfl) (pe_ix ix_list (pe_lst (pa_cons pe_int (pa_cons (pe_op op_pow pe_int pe_int) (pa_cons (pe_op op_add pe_int (pe_call L.Gd hr1 (by rfl) L.Bd.at_ L.Bd.kp L.Bd.b .nil pass0 (pa_cons (pv 1) (pa_cons (pe_op op_pow pe_int pe_int) pa_nil)))) pa_nil)))) (pe_call L.Gd hr1 (by rfl) L.Bd.at_ L.Bd.kp L.Bd.b .nil pass0 (pa_cons (pv 1) (pa_cons pe_int pa_nil))) (fun _ _ => rfl)))
          (pss_cons (ps_set (i := 12) scRLaw.nd rfl (Or.inl rfl) (pe_tup (pa_cons (pe_ix ix_tup (pv 3) pe_int (fun _ _ => rfl)) (pa_cons (pe_callB (cr_sortedDR hr.units) (by rfl) mS (by decide +kernel) (pa_cons (pe_op op_cat (pe_ix ix_tup (pv 3) pe_int (fun _ _ => rfl)) (pe_lst (pa_cons (pe_tup (pa_cons (pe_callB (cr_minL rfl) (by rfl) mN (by decide +kernel) (pa_cons (pv 6) pa_nil)) (pa_cons (pe_callB (cr_maxL rfl) (by rfl) mX (by decide +kernel) (pa_cons (pv 6) pa_nil)) (pa_cons (pv 11) pa_nil)))) pa_nil))) pa_nil)) pa_nil))))
          (pss_cons (ps_if (pt_not (pt_val (pe_callG L.Gt hg hr6 (by rfl) L.Bt.at_ L.Bt.kp L.Bt.b .nil pass0 (pa_cons (pe_call L.Gw hr8 (by rfl) L.Bw.at_ L.Bw.kp L.Bw.b .nil pass0 (pa_cons (pv 8) (pa_cons (pe_ix ix_list (pv 6) pe_int (fun _ _ => rfl)) (pa_cons (pe_ix ix_list (pv 6) pe_int (fun _ _ => rfl)) (pa_cons (pv 11) pa_nil))))) (pa_cons (pv 12) pa_nil))))) (pss_one (ps_ret pe_bl)) pss_nil)
          (pss_one (ps_if (pt_not (pt_val (pe_callG L.Gt hg hr6 (by rfl) L.Bt.at_ L.Bt.kp L.Bt.b .nil pass0 (pa_cons (pe_call L.Go hr8 (by rfl) L.Bo.at_ L.Bo.kp L.Bo.b .nil pass0 (pa_cons (pv 12) (pa_cons (pe_ix ix_list (pv 6) pe_int (fun _ _ => rfl)) (pa_cons (pe_ix ix_list (pv 6) pe_int (fun _ _ => rfl)) pa_nil)))) (pa_cons (pv 3) pa_nil))))) (pss_one (ps_ret pe_bl)) pss_nil))))))
      (pss_one (ps_if (pt_cmpR op_ne (pe_callB (cr_reprR hg hr.units) (by rfl) mP (by decide +kernel) (pa_cons (pv 8) pa_nil)) (pv 9) (nomark _)) (pss_one (ps_ret pe_bl)) pss_nil))))))))))))
    (pss_one (ps_ret (pe_callG M.Gf hg hr (by rfl) M.Bf.at_ M.Bf.kp M.Bf.b .nil pass0 (pa_cons (pv 1) pa_nil))))), ?_⟩
    refine ⟨_, rfl, a0, ns, rfl, hS, fun a g m H1 s1 na ng nm R1 => ?_⟩
    refine ⟨_, rfl, a0, _, rfl, .inl (s1.seq hS), _, 7, rfl, ?_⟩
    obtain ⟨t, et, t0, t8⟩ : ∃ t : Int, (1 : Int) + (if (7 : Int) < ((ns.map V.int).length : Int) then (7 : Int) else ((ns.map V.int).length : Int)) = t ∧ 0 ≤ t ∧ t ≤ 8 := ⟨_, rfl, by split <;> omega, by split <;> omega⟩
    refine ⟨_, _, rfl, rfl, 1 + (if (7 : Int) < ((ns.map V.int).length : Int) then (7 : Int) else ((ns.map V.int).length : Int)), rfl, by omega, by omega, ?_⟩
    rw [et]
    refine for_it (walk_range (lo := 0) (n := t.toNat)) (fun i σ H2 => ∃ (u2 u3 u4 u5 u6 u7 u8 u9 u10 u11 u12 : Option V) (g' : Addr), σ = [some (.ref a0), some (.ref a), u2, u3, u4, u5, u6, u7, u8, u9, u10, u11, u12, none] ∧ ReelAt H2 a g' m)
      ⟨none, none, none, none, none, none, none, none, none, none, none, g, rfl, R1⟩ (fun _ _ _ _ _ => True.intro) ?_ ?_
    · rintro i x σ H2 H3 hi ⟨u2, u3, u4, u5, u6, u7, u8, u9, u10, u11, u12, g3, rfl, R3⟩ ⟨rfl, rfl⟩
      -- the web
      refine ⟨_, rfl, _, _, rfl, rfl, ⟨by decide, by decide, by decide⟩, a, g3, m, 11, (10 : Int) ^ (12 : Int).toNat, rfl, R3, by decide, by decide, by decide, by decide, fun T names ways g4 H4 nT so4 fr4 W4 wok pn inP nl wl R4 => ?_⟩
      have ne : names ≠ [] := fun e => by
        have := wok.one
        rw [e] at this
        exact absurd this (by decide)
      obtain ⟨F0, W0, ws, hT, hF, hW, hI, nTa, nFa, nWa⟩ := W4.apartR R4 ne
      -- with one more of the folk
      refine ⟨_, rfl, T, _, 0, _, rfl, rfl, SqT.of hT, atI_nat (j := 0) rfl, by show 1 ≤ sizeLine; decide, fun p1 np1 => ?_⟩
      have s5 := same_new (o := .lst [.str "aaaaaaaa"]) np1
      have hp5 : (upd H4 p1 (.lst [.str "aaaaaaaa"])) p1 = some (.lst [.str "aaaaaaaa"]) := upd_same
      generalize (upd H4 p1 (.lst [.str "aaaaaaaa"])) = H5 at s5 hp5 ⊢
      refine ⟨F0, p1, _, _, rfl, rfl, s5 _ _ hF, hp5, ?_, fun p2 np2 => ?_⟩
      · rw [List.length_map]
        exact Nat.le_trans (show names.length + 1 ≤ 100 by omega) (by decide)
      have s6 := s5.trans (same_new (o := .lst (names.map V.str ++ [.str "aaaaaaaa"])) np2)
      have hp6 : (upd H5 p2 (.lst (names.map V.str ++ [.str "aaaaaaaa"]))) p2 = some (.lst (((names ++ [aaR]).map (Sum.inr : Str → Key)).map kV)) := by
        rw [upd_same, List.map_map, List.map_append]
        rfl
      generalize (upd H5 p2 (.lst (names.map V.str ++ [.str "aaaaaaaa"]))) = H6 at s6 hp6 ⊢
      refine ⟨p2, (names ++ [aaR]).map Sum.inr, rfl, .inl (SqL.of hp6), ?_, fun p3 np3 => ?_⟩
      · rw [List.length_map, List.length_append]
        exact Nat.lt_of_le_of_lt (show names.length + 1 + 1 ≤ 20 by omega) (by decide)
      have ka : ∀ k ∈ dedK ((names ++ [aaR]).map (Sum.inr : Str → Key)), ∃ x, k = Sum.inr x := fun k hk => by
        obtain ⟨x, _, rfl⟩ := List.mem_map.mp (dedK_mem.mp hk)
        exact ⟨x, rfl⟩
      refine ⟨p3, _, rfl, upd_same, .inr ka, fun ls p4 pm pw np4 => ?_⟩
      obtain ⟨ts, rfl⟩ := keys_str fun k hk => ka k (pm.mem_iff.mp hk)
      have ndt : ts.Nodup := List.Pairwise.of_map Sum.inr (fun a b h e => h (congrArg _ e)) ((pm.nodup_iff).mpr (dedK_nodup _))
      have memT : ∀ x, x ∈ ts ↔ x ∈ names ∨ x = aaR := fun x => by
        constructor
        · intro hx
          have := dedK_mem.mp (pm.mem_iff.mp (List.mem_map.mpr ⟨x, hx, rfl⟩))
          obtain ⟨y, hy, e⟩ := List.mem_map.mp this
          cases e
          rcases List.mem_append.mp hy with h | h
          · exact .inl h
          · exact .inr (List.mem_singleton.mp h)
        · intro hx
          have h1 : (Sum.inr x : Key) ∈ (names ++ [aaR]).map Sum.inr := List.mem_map.mpr ⟨x, List.mem_append.mpr (hx.imp id fun h => List.mem_singleton.mpr h), rfl⟩
          obtain ⟨y, hy, e⟩ := List.mem_map.mp (pm.mem_iff.mpr (dedK_mem.mpr h1))
          cases e
          exact hy
      have pwT : ts.Pairwise fun x y => ltS x y = true := by
        have h1 : ts.Pairwise fun x y => PySem.W.dataLe false PyData.str x y = true := List.pairwise_map.mp pw
        refine (ord_str.pw ndt h1).imp fun {x y} h => ?_
        rw [PySem.W.dataLt_str] at h
        exact h
      have okT : ∀ x ∈ ts, nameOkS x = true := fun x hx => by
        rcases (memT x).mp hx with h | rfl
        · exact wok.ok x h
        · decide +kernel
      have l2 : 2 ≤ ts.length := by
        have h1 := (memT aaR).mpr (.inr rfl)
        obtain ⟨x0, hx0⟩ : ∃ x0, x0 ∈ names := List.exists_mem_of_length_pos (List.length_pos_iff.mpr ne)
        have h2 := (memT x0).mpr (.inl hx0)
        have h3 : x0 ≠ aaR := fun e => by
          have h4 := inP x0 hx0
          rw [e] at h4
          exact absurd h4 (by decide +kernel)
        match ts, h1, h2 with
        | [y], h1, h2 => exact absurd ((List.mem_singleton.mp h2).trans (List.mem_singleton.mp h1).symm) h3
        | _ :: _ :: _, _, _ => simp
      have l12 : ts.length ≤ 12 := by
        have h1 := pm.length_eq
        have h2 := dedK_len ((names ++ [aaR]).map (Sum.inr : Str → Key))
        rw [List.length_map] at h1 h2
        rw [List.length_append] at h2
        have h3 : [aaR].length = 1 := rfl
        omega
      have upT : risingD (ts.map PyData.str) = true := rising_of (List.pairwise_map.mpr (pwT.imp fun {x y} k => by rw [PySem.W.dataLt_str]; exact k))
      have NO : NamesOk ts 12 := ⟨okT, by omega, l12, upT, ndt, pwT⟩
      have inT : ∀ x, inNames x names = true → x ∈ ts := fun x hx => (memT x).mpr (.inl (inNames_iff.mp hx))
      have each : ∀ y ∈ ways, y.1 ∈ ts ∧ y.2.1 ∈ ts ∧ ltS y.1 y.2.1 = true ∧ 1 ≤ y.2.2 ∧ y.2.2 ≤ 1000000000000 := fun y hy => by
        obtain ⟨k1, k2, k3, k4, k5, k6, k7⟩ := wok.way y hy
        exact ⟨inT _ k5, inT _ k6, k7, k3, k4⟩
      have pwW := rise_pw ways wok.upw
      obtain ⟨wokT, _⟩ := webOk_rows NO (by omega) pwW each (by omega)
      rw [List.map_map]
      have s7 := s6.trans (same_new (o := KO w p3 (dedK ((names ++ [aaR]).map Sum.inr))) np3)
      have s8 := s7.trans (same_new (o := .lst (ts.map (kV ∘ Sum.inr))) np4)
      have hp8 : (upd (upd H6 p3 (KO w p3 (dedK ((names ++ [aaR]).map Sum.inr)))) p4 (.lst (ts.map (kV ∘ Sum.inr)))) p4 = some (.lst (ts.map V.str)) := upd_same
      refine ⟨_, rfl, T, _, 1, _, rfl, rfl, SqT.of (s8 _ _ hT), atI_nat (j := 1) rfl, by show 2 ≤ sizeLine; decide, fun T2 nT2 => ?_⟩
      have s9 := s8.trans (same_new (o := .tup [.ref p4, .ref W0]) nT2)
      have W9 : WebAt (upd (upd (upd H6 p3 (KO w p3 (dedK ((names ++ [aaR]).map Sum.inr)))) p4 (.lst (ts.map (kV ∘ Sum.inr)))) T2 (.tup [.ref p4, .ref W0])) T2 ts ways := ⟨p4, W0, ws, upd_same, same_new nT2 _ _ hp8, s9 _ _ hW, hI.on (TS.same s9)⟩
      show tSeq _ _ _ _ (upd (upd (upd H6 p3 (KO w p3 (dedK ((names ++ [aaR]).map Sum.inr)))) p4 (.lst (ts.map (kV ∘ Sum.inr)))) T2 (.tup [.ref p4, .ref W0]))
      generalize (upd (upd (upd H6 p3 (KO w p3 (dedK ((names ++ [aaR]).map Sum.inr)))) p4 (.lst (ts.map (kV ∘ Sum.inr)))) T2 (.tup [.ref p4, .ref W0])) = H9 at s9 W9 ⊢
      have R9 := R4.on s9
      clear pm pw ka np1 np2 np3 np4 nT2 hp8 s8 s7 s6 s5 hp5 hp6 memT inT
      have neT : ts ≠ [] := List.ne_nil_of_length_pos (by omega)
      have lnV : (ts.map V.str).length = ts.length := List.length_map ..
      have name_at : ∀ {j : Nat} (h : j < ts.length), (ts.map V.str)[j]? = some (.str ts[j]) := fun {j} h => by
        rw [List.getElem?_map, List.getElem?_eq_getElem h]
        rfl
      -- two of the folk
      obtain ⟨F2, W2, ws2, hT2, hF2, hW2, hI2, nTa, nFa, nWa⟩ := W9.apartR R9 neT
      refine ⟨_, rfl, _, rfl, T2, _, 0, _, rfl, rfl, SqT.of hT2, atI_nat (j := 0) rfl, F2, _, rfl, .inl (SqL.of hF2), a, g4, m, _, rfl, R9, by omega, by omega, fun v1 g5 H10 v1l so10 fr10 R10 => ?_⟩
      have hT10 := so10 _ _ nTa hT2
      have hF10 := so10 _ _ nFa hF2
      refine ⟨_, rfl, _, rfl, T2, _, 0, _, rfl, rfl, SqT.of hT10, atI_nat (j := 0) rfl, F2, _, rfl, .inl (SqL.of hF10), _, _, rfl, rfl, a, g5, m, _, rfl, R10, by omega, by omega, fun w1 g6 H11 w1l so11 fr11 R11 => ?_⟩
      rw [lnV] at v1l w1l
      obtain ⟨o2, eo, o2l, o2n⟩ : ∃ o2 : Nat, (w1 : Int) + (if decide ((v1 : Int) ≤ (w1 : Int)) = true then (1 : Int) else 0) = (o2 : Int) ∧ o2 < ts.length ∧ o2 ≠ v1 := by
        by_cases le : (v1 : Int) ≤ (w1 : Int)
        · refine ⟨w1 + 1, ?_, by omega, by omega⟩
          rw [decide_eq_true le]
          show (w1 : Int) + 1 = _
          omega
        · refine ⟨w1, ?_, by omega, by omega⟩
          rw [decide_eq_false le]
          show (w1 : Int) + 0 = _
          omega
      refine ⟨_, _, rfl, _, rfl, _, rfl, _, rfl, _, _, rfl, rfl, .inr ⟨_, rfl, (w1 : Int), (if decide ((v1 : Int) ≤ (w1 : Int)) = true then (1 : Int) else 0), rfl, rfl, ?_⟩⟩
      show gName 5 (.int ((w1 : Int) + (if decide ((v1 : Int) ≤ (w1 : Int)) = true then (1 : Int) else 0))) _ _ _
      rw [eo]
      have so911 : SameO a H9 H11 := so10.trans so11
      have W11 := W9.soR R9 so911 neT
      have hT11 := so911 _ _ nTa hT2
      have hF11 := so911 _ _ nFa hF2
      have hW11 := so911 _ _ nWa hW2
      have hI11 := hI2.on (R9.ts so911)
      have v1t : v1 < ts.length := by omega
      refine ⟨_, rfl, T2, _, 0, _, rfl, rfl, SqT.of hT11, atI_nat (j := 0) rfl, _, rfl, F2, _, _, _, rfl, rfl, SqL.of hF11, atI_nat (name_at v1t), _, rfl, T2, _, 0, _, rfl, rfl, SqT.of hT11, atI_nat (j := 0) rfl, _, rfl, F2, _, _, _, rfl, rfl, SqL.of hF11, atI_nat (name_at o2l), by show 2 ≤ sizeLine; decide, fun Pp nP => ?_⟩
      have xm : ts[v1] ∈ ts := List.getElem_mem v1t
      have ym : ts[o2] ∈ ts := List.getElem_mem o2l
      have xy : ts[v1] ≠ ts[o2] := fun e => o2n ((List.getElem_inj ndt).mp e).symm
      generalize ts[v1] = x at xm xy
      generalize ts[o2] = y at ym xy
      have s12 := same_new (o := .lst [.str x, .str y]) nP
      have hP12 : (upd H11 Pp (.lst [.str x, .str y])) Pp = some (.lst [.str x, .str y]) := upd_same
      have Pa := (R11.ne nP).1
      show tSeq _ _ _ _ (upd H11 Pp (.lst [.str x, .str y]))
      generalize (upd H11 Pp (.lst [.str x, .str y])) = H12 at s12 hP12 ⊢
      have R12 := R11.on s12
      have W12 := W11.on s12
      have hT12 := s12 _ _ hT11
      have hF12 := s12 _ _ hF11
      have hW12 := s12 _ _ hW11
      have hI12 := hI11.on (TS.same s12)
      have lws := hI12.length
      rw [List.length_map] at lws
      have few := wokT.few
      -- there
      refine ⟨_, rfl, T2, _, 1, _, rfl, rfl, SqT.of hT12, atI_nat (j := 1) rfl, W2, rfl, ⟨_, SqL.of hW12⟩, fun Th nTh => ?_⟩
      refine lc_it (walk_list (K := K) (a := W2) (xs := ws2)) (fun t H' => ∃ acc, H' Th = some (.lst acc) ∧ Ims H' acc (((ways.take t).filter fun z => decide (pr z = (minS x y, maxS x y))).map wayD3) ∧ Same H12 H')
        ⟨[], upd_same, .nil, same_new nTh⟩ (fun i H' _ ⟨_, _, _, s⟩ => SqL.of (s _ _ hW12)) ?_ ?_
      · rintro j v H13 H14 ht ⟨acc, hacc, iA, s13⟩ ⟨rfl, ex⟩
        have tl : j < ways.length := by omega
        obtain ⟨d, ed, imx⟩ := Ims.at (hI12.on (TS.same s13)) ex
        rw [List.getElem?_map, List.getElem?_eq_getElem tl] at ed
        cases ed
        have etk : ways.take (j + 1) = ways.take j ++ [ways[j]] := by
          rw [List.take_add_one, List.getElem?_eq_getElem tl]
          rfl
        have ymem : ways[j] ∈ ways := List.getElem_mem tl
        generalize ways[j] = z at imx etk ymem
        have triz := y3_sm wokT z ymem
        have lacc : acc.length ≤ 150 := by
          rw [iA.length, List.length_map]
          refine Nat.le_trans (List.length_filter_le _ _) ?_
          rw [List.length_take]
          omega
        obtain ⟨b, rfl, hb⟩ := im_way imx
        refine ⟨rfl, _, rfl, b, _, 0, _, rfl, rfl, SqT.of hb, atI_nat (j := 0) rfl, _, rfl, b, _, 1, _, rfl, rfl, SqT.of hb, atI_nat (j := 1) rfl, by show 2 ≤ sizeLine; decide, fun l1 nl1 => ?_⟩
        have s15 := same_new (o := .lst [.str z.1, .str z.2.1]) nl1
        have h15 : (upd H14 l1 (.lst [.str z.1, .str z.2.1])) l1 = some (.lst ([z.1, z.2.1].map V.str)) := upd_same
        generalize (upd H14 l1 (.lst [.str z.1, .str z.2.1])) = H15 at s15 h15 ⊢
        have hP15 := s15 _ _ (s13 _ _ hP12)
        refine ⟨_, rfl, Pp, [x, y], rfl, SqL.of hP15, fun l2' nl2 => ?_⟩
        rw [sort_two xy]
        have s16 := same_new (o := .lst ([minS x y, maxS x y].map V.str)) nl2
        have h16 : (upd H15 l2' (.lst ([minS x y, maxS x y].map V.str))) l2' = some (.lst ([minS x y, maxS x y].map V.str)) := upd_same
        have h16' := s16 _ _ h15
        generalize (upd H15 l2' (.lst ([minS x y, maxS x y].map V.str))) = H16 at s16 h16 h16' ⊢
        obtain ⟨mok, Mok⟩ := minS_okR (okT x xm) (okT y ym)
        refine ⟨_, _, strs_dpR h16', strs_dpR h16, shaped_strsR (fun w hw => ?_) (by show 2 ≤ 1000; decide), shaped_strsR (fun w hw => ?_) (by show 2 ≤ 1000; decide), _, rfl, ?_⟩
        · simp only [List.mem_cons, List.not_mem_nil, or_false] at hw
          rcases hw with rfl | rfl
          · exact triz.1
          · exact triz.2.1
        · simp only [List.mem_cons, List.not_mem_nil, or_false] at hw
          rcases hw with rfl | rfl
          · exact mok
          · exact Mok
        rw [eqv_two]
        have s1416 := s15.trans s16
        by_cases e : pr z = (minS x y, maxS x y)
        · rw [decide_eq_true (show (z.1, z.2.1) = (minS x y, maxS x y) from e)]
          have hacc16 := s1416 _ _ hacc
          refine iteT ⟨_, rfl, acc, hacc16, Nat.lt_of_le_of_lt lacc (by decide), acc ++ [.ref b], upd_same, ?_, same_at (s13.trans s1416) nTh⟩
          rw [etk, List.filter_append, show ([z].filter fun z => decide (pr z = (minS x y, maxS x y))) = [z] by simp [e], List.map_append]
          exact ((iA.append (.cons imx .nil)).on (TS.same s1416)).on (TS.lst hacc16)
        · rw [decide_eq_false (show ¬ (z.1, z.2.1) = (minS x y, maxS x y) from e)]
          refine iteF ⟨acc, s1416 _ _ hacc, ?_, s13.trans s1416⟩
          rw [etk, List.filter_append, show ([z].filter fun z => decide (pr z = (minS x y, maxS x y))) = [] by simp [e], List.append_nil]
          exact iA.on (TS.same s1416)
      · rintro H13 ⟨acc, hacc, iA, s13⟩
        rw [List.take_of_length_le (by omega)] at iA
        have W13 := W12.on s13
        have R13 := R12.on s13
        have ThA : Th ≠ a := (R12.ne nTh).1
        -- handed
        refine ⟨_, rfl, _, rfl, a, g6, m, T2, ts, ways, rfl, R13, W13, wokT, fun vh g7 H14 so14 fr14 R14 WV14 => ?_⟩
        obtain ⟨d, wf, smd, dah⟩ := WV14.steady R14 wokT
        have so1214 : SameO a H12 H14 := (SameO.of s13).trans so14
        have W14 := W13.soR R13 so14 neT
        have hTh14 := so14 _ _ ThA hacc
        have iA14 := iA.on (R13.ts so14)
        have hP14 := so1214 _ _ Pa hP12
        have hT14 := so1214 _ _ nTa hT12
        have hF14 := so1214 _ _ nFa hF12
        have hW14 := so1214 _ _ nWa hW12
        have hI14 := hI12.on (R12.ts so1214)
        refine ⟨_, rfl, repr_datR ((dah H14 (fun _ _ _ e => e)).dp (lay_nodict _ smd.lay)) smd (by decide) (by decide) ?_⟩
        refine name_o ?_
        dsimp only
        refine seq_cut (fun σ' H' => ∃ (u10 u11 u12 : Option V) (g' : Addr), σ' = [some (.ref a0), some (.ref a), some (.int (0 + (i : Nat))), some (.ref T2), some (.int (v1 : Int)), some (.int (o2 : Int)), some (.ref Pp), some (.ref Th), some vh, some (.str d.shown), u10, u11, u12, none] ∧ ReelAt H' a g' m ∧ SameO a H14 H') (fun σ' H' hR => ?_) (fun rest => ?_)
        · obtain ⟨u10, u11, u12, g8, rfl, R8, so8⟩ := hR
          refine ⟨_, rfl, repr_datR ((dah H' so8).dp (lay_nodict _ smd.lay)) smd (by decide) (by decide) ⟨_, rfl, rfl, _, rfl, ?_⟩⟩
          rw [dec_str, decide_eq_true rfl]
          exact iteF ⟨_, _, _, _, _, _, _, _, _, _, _, g8, rfl, R8⟩
        · -- is there a way between the two?
          refine ⟨_, rfl, Nat.zero_le _, fun l nl => ?_⟩
          have s15 := same_new (o := .lst []) nl
          have smA : SeqAt.shaped (.list ((ways.filter fun z => decide (pr z = (minS x y, maxS x y))).map wayD3)) = true := by
            have h : Sm 20000 2 (.list ((ways.filter fun z => decide (pr z = (minS x y, maxS x y))).map wayD3)) := Sm.list (B := 130) (k := 1) (fun e he => by
              obtain ⟨z, hz, rfl⟩ := List.mem_map.mp he
              exact Sm.way (y3_sm wokT z (List.mem_filter.mp hz).1)) (by
                rw [List.length_map]
                have := List.length_filter_le (fun z => decide (pr z = (minS x y, maxS x y))) ways
                omega)
            exact h.shaped (by decide)
          refine ⟨_, _, .lst (SqL.of (s15 _ _ hTh14)) (iA14.on (TS.same s15)).dp, .lst (SqL.of upd_same) .nil, smA, shaped_nilR, _, rfl, ?_⟩
          rw [eqv_nilR]
          have W15 := W14.on s15
          have R15 := R14.on s15
          have so15 : SameO a H14 (upd H14 l (.lst [])) := SameO.of s15
          generalize (upd H14 l (.lst [])) = H15 at s15 W15 R15 so15 ⊢
          have hTh15 := s15 _ _ hTh14
          have iA15 := iA14.on (TS.same s15)
          have hP15 := s15 _ _ hP14
          have hT15 := s15 _ _ hT14
          have hF15 := s15 _ _ hF14
          have hW15 := s15 _ _ hW14
          have hI15 := hI14.on (TS.same s15)
          have dah15 := dah H15 so15
          cases hL : ways.filter fun z => decide (pr z = (minS x y, maxS x y)) with
          | cons z rs =>
            rw [hL] at iA15
            refine iteT ?_
            have zin : z ∈ ways ∧ pr z = (minS x y, maxS x y) := by
              have h : z ∈ ways.filter fun z => decide (pr z = (minS x y, maxS x y)) := by rw [hL]; exact List.mem_cons_self ..
              obtain ⟨h1, h2⟩ := List.mem_filter.mp h
              exact ⟨h1, of_decide_eq_true h2⟩
            obtain ⟨zm, zpr⟩ := zin
            obtain ⟨uz, us, eacc, imz⟩ : ∃ u us, acc = u :: us ∧ Im H15 u (wayD3 z) := by
              cases iA15 with
              | cons h1 _ => exact ⟨_, _, rfl, h1⟩
            subst eacc
            obtain ⟨bz, rfl, hbz⟩ := im_way imz
            obtain ⟨nd, pm, efilt⟩ := ways_less pn zm
            rw [show (z.1, z.2.1) = pr z from rfl, zpr] at efilt
            have pwl : ((ways.filter fun u => decide (u ≠ z)).map pr).Pairwise fun p q => ltP p q = true := pwW.sublist ((List.filter_sublist ..).map pr)
            have lenl : (ways.filter fun u => decide (u ≠ z)).length + 1 = ways.length := by
              have := pm.length_eq
              rw [List.length_cons] at this
              omega
            obtain ⟨wokl, _⟩ := webOk_rows NO (by omega) pwl (fun y hy => each y (List.mem_filter.mp hy).1) (by omega)
            -- less
            refine ⟨_, rfl, T2, _, 0, _, rfl, rfl, SqT.of hT15, atI_nat (j := 0) rfl, _, rfl, T2, _, 1, _, rfl, rfl, SqT.of hT15, atI_nat (j := 1) rfl, W2, rfl, ⟨_, SqL.of hW15⟩, fun D nD => ?_⟩
            refine lc_it (walk_list (K := K) (a := W2) (xs := ws2)) (fun t H' => ∃ acc, H' D = some (.lst acc) ∧ Ims H' acc (((ways.take t).filter fun u => decide (u ≠ z)).map wayD3) ∧ Same H15 H')
              ⟨[], upd_same, .nil, same_new nD⟩ (fun i H' _ ⟨_, _, _, s⟩ => SqL.of (s _ _ hW15)) ?_ ?_
            · rintro j v H16 H17 ht ⟨acc, hacc2, iB, s16⟩ ⟨rfl, ex⟩
              have tl : j < ways.length := by omega
              obtain ⟨d', ed, imx⟩ := Ims.at (hI15.on (TS.same s16)) ex
              rw [List.getElem?_map, List.getElem?_eq_getElem tl] at ed
              cases ed
              have etk : ways.take (j + 1) = ways.take j ++ [ways[j]] := by
                rw [List.take_add_one, List.getElem?_eq_getElem tl]
                rfl
              have ymem : ways[j] ∈ ways := List.getElem_mem tl
              generalize ways[j] = u at imx etk ymem
              have lacc : acc.length ≤ 150 := by
                rw [iB.length, List.length_map]
                refine Nat.le_trans (List.length_filter_le _ _) ?_
                rw [List.length_take]
                omega
              refine ⟨rfl, _, rfl, _, rfl, Th, _, 0, _, rfl, rfl, SqL.of (s16 _ _ hTh15), atI_nat (j := 0) rfl, wayD3 u, wayD3 z, imx.dp, (way_im (s16 _ _ hbz)).dp, (Sm.way (y3_sm wokT u ymem)).shaped (by decide), (Sm.way (y3_sm wokT z zm)).shaped (by decide), _, rfl, ?_⟩
              rw [eqv_place]
              by_cases e : u = z
              · rw [decide_eq_true e]
                refine iteF ⟨acc, hacc2, ?_, s16⟩
                rw [etk, List.filter_append, show ([u].filter fun u => decide (u ≠ z)) = [] by simp [e], List.append_nil]
                exact iB
              · rw [decide_eq_false e]
                refine iteT ⟨_, rfl, acc, hacc2, Nat.lt_of_le_of_lt lacc (by decide), acc ++ [v], upd_same, ?_, same_at s16 nD⟩
                rw [etk, List.filter_append, show ([u].filter fun u => decide (u ≠ z)) = [u] by simp [e], List.map_append]
                exact (iB.append (.cons imx .nil)).on (TS.lst hacc2)
            · rintro H16 ⟨accB, hB, iB, s16⟩
              rw [List.take_of_length_le (by omega)] at iB
              generalize ways.filter (fun u => decide (u ≠ z)) = less at pm efilt pwl lenl wokl iB
              refine ⟨by show 2 ≤ sizeLine; decide, fun Tl nTl => ?_⟩
              have s17 := s16.trans (same_new (o := .tup [.ref F2, .ref D]) nTl)
              have wl : WebAt (upd H16 Tl (.tup [.ref F2, .ref D])) Tl ts less := ⟨F2, D, accB, upd_same, same_new nTl _ _ (s16 _ _ hF15), same_new nTl _ _ hB, iB.on (TS.new nTl)⟩
              refine name_o ?_
              dsimp only
              generalize (upd H16 Tl (.tup [.ref F2, .ref D])) = H17 at s17 wl ⊢
              have hP17 := s17 _ _ hP15
              obtain ⟨wd, efd, ewd⟩ := wf.web wokT
              obtain ⟨el, efl, ewl⟩ := webT_web wokl
              obtain ⟨mm1, mm2⟩ := minS_com xy
              -- one less
              refine ⟨_, rfl, _, rfl, Pp, _, 0, _, rfl, rfl, SqL.of hP17, atI_nat (j := 0) rfl, _, rfl, Pp, _, 1, _, rfl, rfl, SqL.of hP17, atI_nat (j := 1) rfl, ?_⟩
              refine ⟨vh, d, x, y, rfl, dah15.on s17, wd, by rw [efd]; exact xm, by rw [efd]; exact ym, xy, ⟨z, by rw [ewd]; exact zm, zpr⟩, fun Tn Fn Wn wsn H18 s18 nF nW hTn hFn hWn hIn => ?_⟩
              rw [efd] at hFn
              rw [ewd, efilt] at hIn
              refine ⟨_, rfl, Tn, Tl, Fn, Wn, wsn, ts, less, rfl, hTn, hFn, hWn, hIn, wl.on s18, wokl, fun H19 s19 => ⟨_, rfl, iteF ?_⟩⟩
              have s1719 := told_same s18 nF nW s19
              -- and one more
              have hP19 := s1719 _ _ hP17
              have hTh19 := s1719 _ _ (s17 _ _ hTh15)
              have hbz19 := s1719 _ _ (s17 _ _ hbz)
              have wl19 := wl.on s1719
              refine seq_o ?_
              refine ⟨_, rfl, _, rfl, Pp, _, 1, _, rfl, rfl, SqL.of hP19, atI_nat (j := 1) rfl, _, rfl, Pp, _, 0, _, rfl, rfl, SqL.of hP19, atI_nat (j := 0) rfl, _, rfl, Th, _, 0, _, rfl, rfl, SqL.of hTh19, atI_nat (j := 0) rfl, bz, _, 2, _, rfl, rfl, SqT.of hbz19, atI_nat (j := 2) rfl, ?_⟩
              obtain ⟨_, _, _, z4, z5⟩ := each z zm
              refine ⟨.ref Tl, webT ts less, y, x, z.2.2, rfl, wl19.dat wokl, el, by rw [efl]; exact ym, by rw [efl]; exact xm, Ne.symm xy, z4, z5, ?_, by rw [ewl]; omega, fun To Fo Wo wso ways' H20 s20 nF2 nW2 hTo hFo hWo hIo pm' pw' => ?_⟩
              · rw [ewl, mm1, mm2, ← zpr]
                exact pn.perm_nodup pm
              · rw [efl] at hFo
                rw [ewl, mm1, mm2, show ((minS x y, maxS x y, z.2.2) : Way) = z from by rw [show z = (((pr z).1, (pr z).2, z.2.2) : Way) from rfl, zpr]] at pm'
                obtain rfl : ways = ways' := rise_one ways ways' pwW pw' (pm.trans pm'.symm)
                have W20 := W15.on ((s17.trans s1719).trans s20)
                refine ⟨_, rfl, To, T2, Fo, Wo, wso, ts, ways, rfl, hTo, hFo, hWo, hIo, W20, wokT, fun H21 s21 => ⟨_, rfl, iteF ?_⟩⟩
                have s1921 := told_same s20 nF2 nW2 s21
                have s1521 := (s17.trans s1719).trans s1921
                exact rest _ _ ⟨_, _, _, g7, rfl, R15.on s1521, so15.trans (SameO.of s1521)⟩
          | nil =>
            refine iteF ?_
            have no : ∀ u ∈ ways, pr u ≠ (minS x y, maxS x y) := fun u hu e => by
              have : u ∈ ways.filter fun z => decide (pr z = (minS x y, maxS x y)) := List.mem_filter.mpr ⟨hu, decide_eq_true e⟩
              rw [hL] at this
              cases this
            -- beats
            refine ⟨_, _, rfl, rfl, ⟨by decide, by decide, by decide⟩, _, rfl, _, _, rfl, rfl, ⟨by decide, by decide, by decide⟩, a, g7, m, (10 : Int) ^ (12 : Int).toNat, rfl, R15, by decide, by decide, fun rb g8 H16 rbl so16 fr16 R16 => ⟨_, _, rfl, rfl, by show 3 ≤ sizeLine; decide, fun p np => ?_⟩⟩
            have s17 := same_new (o := .lst [.int 1, .int ((10 : Int) ^ (12 : Int).toNat), .int (1 + (rb : Int))]) np
            have hp17 : (upd H16 p (.lst [.int 1, .int ((10 : Int) ^ (12 : Int).toNat), .int (1 + (rb : Int))])) p = some (.lst [.int 1, .int ((10 : Int) ^ (12 : Int).toNat), .int (1 + (rb : Int))]) := upd_same
            have pa := (R16.ne np).1
            have R17 := R16.on s17
            show (tCall spRDraw [] E0 _) _ (upd H16 p (.lst [.int 1, .int ((10 : Int) ^ (12 : Int).toNat), .int (1 + (rb : Int))])) _
            generalize (upd H16 p (.lst [.int 1, .int ((10 : Int) ^ (12 : Int).toNat), .int (1 + (rb : Int))])) = H17 at s17 hp17 R17 ⊢
            refine ⟨_, rfl, a, g8, m, 3, rfl, R17, by decide, by decide, fun r3 g9 H18 r3l so18 fr18 R18 => ?_⟩
            obtain ⟨bt, eb, b1, b2⟩ : ∃ bt : Int, [V.int 1, V.int ((10 : Int) ^ (12 : Int).toNat), V.int (1 + (rb : Int))][r3]? = some (.int bt) ∧ 1 ≤ bt ∧ bt ≤ 1000000000000 := by
              have e12 : (10 : Int) ^ (12 : Int).toNat = 1000000000000 := by decide
              rw [e12] at rbl ⊢
              have c : r3 = 0 ∨ r3 = 1 ∨ r3 = 2 := by omega
              rcases c with rfl | rfl | rfl
              · exact ⟨1, rfl, by omega, by omega⟩
              · exact ⟨1000000000000, rfl, by omega, by omega⟩
              · exact ⟨1 + (rb : Int), rfl, by omega, by omega⟩
            refine ⟨p, _, _, _, rfl, rfl, SqL.of (so18 _ _ pa hp17), atI_nat eb, ?_⟩
            have so1518 : SameO a H15 H18 := (so16.trans (SameO.of s17)).trans so18
            have so1418 : SameO a H14 H18 := so15.trans so1518
            have W18 := W15.soR R15 so1518 neT
            have hP18 := so1518 _ _ Pa hP15
            have hT18 := so1518 _ _ nTa hT15
            have hF18 := so1518 _ _ nFa hF15
            have hW18 := so1518 _ _ nWa hW15
            have hI18 := hI15.on (R15.ts so1518)
            have dah18 := dah H18 so1418
            -- grown
            refine ⟨_, rfl, T2, _, 0, _, rfl, rfl, SqT.of hT18, atI_nat (j := 0) rfl, _, rfl, T2, _, 1, _, rfl, rfl, SqT.of hT18, atI_nat (j := 1) rfl, _, rfl, Pp, x, y, rfl, SqL.of hP18, _, rfl, Pp, x, y, rfl, SqL.of hP18, _, rfl, by show 3 ≤ sizeLine; decide, fun ty nty => ⟨by show 1 ≤ sizeLine; decide, fun p1 np1 => ?_⟩⟩
            generalize hnew : ((minS x y, maxS x y, bt) : Way) = nw
            have enw : nw.1 = minS x y ∧ nw.2.1 = maxS x y ∧ nw.2.2 = bt := by rw [← hnew]; exact ⟨rfl, rfl, rfl⟩
            have s19 := (same_new (o := .tup [.str (minS x y), .str (maxS x y), .int bt]) nty).trans (same_new (o := .lst [.ref ty]) np1)
            have hty : (upd (upd H18 ty (.tup [.str (minS x y), .str (maxS x y), .int bt])) p1 (.lst [.ref ty])) ty = some (.tup [.str nw.1, .str nw.2.1, .int nw.2.2]) := by
              rw [enw.1, enw.2.1, enw.2.2]
              exact same_new np1 _ _ upd_same
            have hp1 : (upd (upd H18 ty (.tup [.str (minS x y), .str (maxS x y), .int bt])) p1 (.lst [.ref ty])) p1 = some (.lst [.ref ty]) := upd_same
            show rCat _ _ (upd (upd H18 ty (.tup [.str (minS x y), .str (maxS x y), .int bt])) p1 (.lst [.ref ty])) _
            generalize (upd (upd H18 ty (.tup [.str (minS x y), .str (maxS x y), .int bt])) p1 (.lst [.ref ty])) = H19 at s19 hty hp1 ⊢
            refine ⟨W2, p1, _, _, rfl, rfl, s19 _ _ hW18, hp1, Nat.le_trans (show ws2.length + 1 ≤ 200 by omega) (by decide), fun p2 np2 => ?_⟩
            have s20 := s19.trans (same_new (o := .lst (ws2 ++ [.ref ty])) np2)
            have hp2 : (upd H19 p2 (.lst (ws2 ++ [.ref ty]))) p2 = some (.lst (ws2 ++ [.ref ty])) := upd_same
            have iN : Ims (upd H19 p2 (.lst (ws2 ++ [.ref ty]))) (ws2 ++ [.ref ty]) ((ways ++ [nw]).map wayD3) := by
              rw [List.map_append]
              exact ((hI18.on (TS.same s19)).append (.cons (way_im hty) .nil)).on (TS.new np2)
            show SortR K [.ref p2] (upd H19 p2 (.lst (ws2 ++ [.ref ty]))) _
            generalize (upd H19 p2 (.lst (ws2 ++ [.ref ty]))) = H20 at s20 hp2 iN ⊢
            have pn2 : PairsNd (ways ++ [nw]) := by
              unfold PairsNd
              rw [List.map_append]
              refine List.nodup_append.mpr ⟨pn, by simp, fun q hq q2 hq2 => ?_⟩
              rintro rfl
              obtain ⟨u, hu, eu⟩ := List.mem_map.mp hq
              rw [List.map_singleton, List.mem_singleton, enw.1, enw.2.1] at hq2
              exact no u hu (eu.trans hq2)
            refine sorted_rows hp2 iN fun r us nr imr => ?_
            have s21 := s20.trans (same_new (o := .lst us) nr)
            have pmS := sortB_perm wayD3 (ways ++ [nw])
            have pwS := rise_pw _ (sorted_rise pn2)
            have hr : (upd H20 r (.lst us)) r = some (.lst us) := upd_same
            refine ⟨by show 2 ≤ sizeLine; decide, fun Tg nTg => ?_⟩
            have s22 := s21.trans (same_new (o := .tup [.ref F2, .ref r]) nTg)
            have wg : WebAt (upd (upd H20 r (.lst us)) Tg (.tup [.ref F2, .ref r])) Tg ts (sortB wayD3 (ways ++ [nw])) := ⟨F2, r, us, upd_same, same_new nTg _ _ (s21 _ _ hF18), same_new nTg _ _ hr, imr.on (TS.new nTg)⟩
            refine name_o ?_
            dsimp only
            generalize (upd (upd H20 r (.lst us)) Tg (.tup [.ref F2, .ref r])) = H22 at s22 wg ⊢
            generalize sortB wayD3 (ways ++ [nw]) = grown at pmS pwS wg
            have pmG : grown.Perm (nw :: ways) := pmS.trans (List.perm_append_singleton nw ways)
            have lenG : grown.length = ways.length + 1 := by rw [pmG.length_eq, List.length_cons]
            have ltxy : ltS (minS x y) (maxS x y) = true := min_lt_max xy
            obtain ⟨min1, max1⟩ := min_of x y
            have mnm : minS x y ∈ ts := by rcases min1 with e | e <;> rw [e] <;> assumption
            have mxm : maxS x y ∈ ts := by rcases max1 with e | e <;> rw [e] <;> assumption
            obtain ⟨wokg, png⟩ := webOk_rows NO (by omega) pwS (fun u hu => by
              rcases List.mem_cons.mp (pmG.mem_iff.mp hu) with e | e
              · rw [e, enw.1, enw.2.1, enw.2.2]
                exact ⟨mnm, mxm, ltxy, b1, b2⟩
              · exact each u e) (by omega)
            obtain ⟨wd, efd, ewd⟩ := wf.web wokT
            obtain ⟨eg, efg, ewg⟩ := webT_web wokg
            obtain ⟨mm1, mm2⟩ := minS_com xy
            have hP22 := s22 _ _ hP18
            -- one more
            refine ⟨_, rfl, _, rfl, Pp, _, 0, _, rfl, rfl, SqL.of hP22, atI_nat (j := 0) rfl, _, rfl, Pp, _, 1, _, rfl, rfl, SqL.of hP22, atI_nat (j := 1) rfl, _, rfl, ?_⟩
            refine ⟨vh, d, x, y, bt, rfl, dah18.on s22, wd, by rw [efd]; exact xm, by rw [efd]; exact ym, xy, b1, b2, by rw [ewd]; exact no, by rw [ewd]; omega, fun Tn Fn Wn wsn ways' H23 s23 nF nW hTn hFn hWn hIn pm' pw' => ?_⟩
            rw [efd] at hFn
            rw [ewd, hnew] at pm'
            obtain rfl : grown = ways' := rise_one grown ways' pwS pw' (pmG.trans pm'.symm)
            refine ⟨_, rfl, Tn, Tg, Fn, Wn, wsn, ts, grown, rfl, hTn, hFn, hWn, hIn, wg.on s23, wokg, fun H24 s24 => ⟨_, rfl, iteF ?_⟩⟩
            have s2224 := told_same s23 nF nW s24
            have hP24 := s2224 _ _ hP22
            have wg24 := wg.on s2224
            have nwm : nw ∈ grown := pmG.mem_iff.mpr (List.mem_cons_self ..)
            obtain ⟨_, pmF, efilt⟩ := ways_less png nwm
            have pwF : ((grown.filter fun z => decide (z ≠ nw)).map pr).Pairwise fun p q => ltP p q = true := pwS.sublist ((List.filter_sublist ..).map pr)
            have eF : (grown.filter fun z => decide (z ≠ nw)) = ways := rise_one _ _ pwF pwW ((List.perm_cons nw).mp (pmF.symm.trans pmG))
            rw [eF, enw.1, enw.2.1] at efilt
            -- and one less
            refine seq_o ?_
            refine ⟨_, rfl, _, rfl, Pp, _, 1, _, rfl, rfl, SqL.of hP24, atI_nat (j := 1) rfl, _, rfl, Pp, _, 0, _, rfl, rfl, SqL.of hP24, atI_nat (j := 0) rfl, ?_⟩
            refine ⟨.ref Tg, webT ts grown, y, x, rfl, wg24.dat wokg, eg, by rw [efg]; exact ym, by rw [efg]; exact xm, Ne.symm xy, ⟨nw, by rw [ewg]; exact nwm, by rw [mm1, mm2, ← enw.1, ← enw.2.1]; rfl⟩, fun To Fo Wo wso H25 s25 nF2 nW2 hTo hFo hWo hIo => ?_⟩
            rw [efg] at hFo
            rw [ewg, mm1, mm2, efilt] at hIo
            have W25 := W18.on ((s22.trans s2224).trans s25)
            refine ⟨_, rfl, To, T2, Fo, Wo, wso, ts, ways, rfl, hTo, hFo, hWo, hIo, W25, wokT, fun H26 s26 => ⟨_, rfl, iteF ?_⟩⟩
            have s2426 := told_same s25 nF2 nW2 s26
            have s1826 := (s22.trans s2224).trans s2426
            exact rest _ _ ⟨_, _, _, g9, rfl, R18.on s1826, so1418.trans (SameO.of s1826)⟩
    · rintro σ H2 ⟨u2, u3, u4, u5, u6, u7, u8, u9, u10, u11, u12, g3, rfl, R3⟩
      exact ⟨_, rfl, a, g3, m, rfl, R3, fun H' => q H'⟩
end
end Cry
/-! own_pair, with_way, less_way, without_way. -/
namespace Cry
open PySem PySem.Spec PyProof.Rows L2
theorem between_z {ways : List Way} (pn : PairsNd ways) {z : Way} (hz : z ∈ ways) : between ways z.1 z.2.1 = z.2.2 := by
  obtain ⟨i, hi, e⟩ := List.getElem_of_mem hz
  refine between_take (i := i) (List.getElem?_eq_some_iff.mpr ⟨hi, e⟩) (fun j u hj eu hh => ?_) ⟨rfl, rfl⟩
  obtain ⟨lj, ej⟩ := List.getElem?_eq_some_iff.mp eu
  have hm : u ∈ ways := ej ▸ List.getElem_mem lj
  have eq : u = z := pr_inj ways pn u hm z hz (Prod.ext hh.1 hh.2)
  have nd : ways.Nodup := List.Pairwise.of_map pr (fun a b h e => h (by rw [e])) pn
  have ij : ways[j]'lj = ways[i]'hi := by rw [ej, e, eq]
  have := (List.getElem_inj nd).mp ij
  omega
section
variable {P : Program} {w : World} {K : PySem.W.Frag} {mg : Str → Option Value} {base : Heap}
theorem scOwnPair : FnScope ["web", "one", "other"] ["web", "one", "other"] (defScope sOwnPair) := ⟨rfl, rfl, rfl, by decide +kernel, rfl, by decide +kernel, by decide +kernel⟩
def spOwnPair : Sp := fun vs H Q _ => ∃ (T : Addr) (x y : Str) (names : List Str) (ways : List Way), vs = [.ref T, .str x, .str y] ∧ WebAt H T names ways ∧ (∀ z ∈ names, nameOkS z = true) ∧ x ∈ names ∧ y ∈ names ∧ x ≠ y ∧
  ∀ p H', Same H H' → H p = none → H' p = some (.lst [.str (minS x y), .str (maxS x y)]) → Q (.ref p) H'
theorem inV_names {x : Str} {names : List Str} (h : x ∈ names) : inV (.str x) (names.map V.str) = true := inNames_iff.mpr h
theorem str_daR {H : Hp} {x : Str} (h : nameOkS x = true) : Da H (.str x) (.str x) := .str x (by
  have h2 : nameOkS x = true := h
  unfold nameOkS at h2
  rw [Bool.and_eq_true, Bool.and_eq_true, decide_eq_true_eq, decide_eq_true_eq] at h2
  exact Nat.le_trans h2.1.2 (by decide))
theorem ok_own_pair {f : Addr} {fd : FuncData} (F : Fun K "own_pair" "own_pair" sOwnPair f fd) (mS : mg "sorted" = none) (T : FormDefs P w K mg base) : FnOk P w K mg base CX0 2 f fd ["web", "one", "other"] spOwnPair := by
  refine F.ok scOwnPair (fun vs H Q E h => ?_) (fun cdv A outer s H vs Q E hr h => ?_)
  · obtain ⟨t, x, y, names, ways, rfl, _⟩ := h
    rfl
  · obtain ⟨t, x, y, names, ways, rfl, hw, ok, xm, ym, ne, q⟩ := h
    refine ⟨_, pss_cons (ps_if (pt_not (PW.pt (pw_and (pt_val (pe_call T.G2 hr (by rfl) T.D2.at_ T.D2.kp T.D2.b .nil pass0 (pa_cons (pv 1) pa_nil))) (pw_and (pt_val (pe_call T.G2 hr (by rfl) T.D2.at_ T.D2.kp T.D2.b .nil pass0 (pa_cons (pv 2) pa_nil)))
        (pw_and (pt_cmpR op_in_seq (pv 1) (pe_ix ix_tup (pv 0) pe_int (fun _ _ => rfl)) rfl) (pw_and (pt_cmpR op_in_seq (pv 2) (pe_ix ix_tup (pv 0) pe_int (fun _ _ => rfl)) rfl) (pw_and1 (pt_cmpR op_ne (pv 1) (pv 2) (nomark _))))))))) (pss_one ps_never) pss_nil)
      (pss_one (ps_ret (pe_callB (cr_sortedT hr.units) (by rfl) mS (by decide +kernel) (pa_cons (pe_lst (pa_cons (pv 1) (pa_cons (pv 2) pa_nil))) pa_nil)))), ?_⟩
    refine ⟨_, rfl, .str x, .str x, rfl, str_daR (ok x xm), fun H1 s1 => ⟨_, rfl, ?_⟩⟩
    rw [show nameD (.str x) = true from ok x xm]
    refine iteT ⟨_, rfl, .str y, .str y, rfl, str_daR (ok y ym), fun H2 s2 => ⟨_, rfl, ?_⟩⟩
    rw [show nameD (.str y) = true from ok y ym]
    have s12 := s1.trans s2
    obtain ⟨F', W, ws, hT, hF, hW, hI⟩ := hw.on s12
    refine iteT ⟨_, rfl, _, rfl, t, _, 0, _, rfl, rfl, SqT.of hT, atI_nat (j := 0) rfl, F', _, rfl, .inl (SqL.of hF), rfl, flat_names names, _, rfl, ?_⟩
    rw [inV_names xm]
    refine iteT ⟨_, rfl, _, rfl, t, _, 0, _, rfl, rfl, SqT.of hT, atI_nat (j := 0) rfl, F', _, rfl, .inl (SqL.of hF), rfl, flat_names names, _, rfl, ?_⟩
    rw [inV_names ym]
    refine iteT ⟨_, rfl, _, rfl, rfl, _, rfl, ?_⟩
    rw [dec_str, decide_eq_false ne]
    refine iteF ⟨_, rfl, _, rfl, by show 2 ≤ sizeLine; decide, fun l nl => ⟨l, [x, y], rfl, SqL.of upd_same, fun p np => ?_⟩⟩
    rw [sort_two ne]
    have s3 := same_new (o := .lst [.str x, .str y]) nl
    exact q p _ ((s12.trans s3).trans (same_new np)) ((s12.trans s3).free np) upd_same
theorem scLessWay : FnScope ["web", "way", "each"] ["web", "way"] (defScope sLessWay) := ⟨rfl, rfl, rfl, by decide +kernel, rfl, by decide +kernel, by decide +kernel⟩
def spLessWay : Sp := fun vs H Q _ => ∃ (T F W b : Addr) (ws : List V) (names : List Str) (ways : List Way) (z : Way), vs = [.ref T, .ref b] ∧ H T = some (.tup [.ref F, .ref W]) ∧ H F = some (.lst (names.map V.str)) ∧ H W = some (.lst ws) ∧ Ims H ws (ways.map wayD3) ∧ WebOk names ways ∧ z ∈ ways ∧ H b = some (.tup [.str z.1, .str z.2.1, .int z.2.2]) ∧
  ∀ (R L : Addr) (us : List V) (H' : Hp), Same H H' → H L = none → H' R = some (.tup [.ref F, .ref L]) → H' L = some (.lst us) → Ims H' us ((ways.filter fun u => decide (u ≠ z)).map wayD3) → Q (.ref R) H'
theorem ok_less_way {f : Addr} {fd : FuncData} (F : Fun K "less_way" "less_way" sLessWay f fd) : FnOk P w K mg base CX0 1 f fd ["web", "way"] spLessWay := by
  refine F.ok scLessWay (fun vs H Q E h => ?_) (fun cdv A outer s H vs Q E hr h => ?_)
  · obtain ⟨T, F', W, b, ws, names, ways, z, rfl, _⟩ := h
    rfl
  · obtain ⟨T, F', W, b, ws, names, ways, z, rfl, hT, hF, hW, hI, wok, zm, hb, q⟩ := h
    refine ⟨_, pss_one (ps_ret (pe_tup (pa_cons (pe_ix ix_tup (pv 0) pe_int (fun _ _ => rfl)) (pa_cons
      (pe_lc (own := [("each", 2)]) (g := gName 2) (tt := tTest (tOp (rNeD K) (tVar 2) (tVar 1))) (te := tVar 2) rfl scLessWay.nd
          (pi_list (pe_ix ix_tup (pv 0) pe_int (fun _ _ => rfl))) (blkOk_by (N := ["web", "way", "each"]) (sc := defScope sLessWay) (by decide +kernel)) (fun _ _ _ _ _ => pg_name (i := 2) scLessWay.nd rfl (Or.inl rfl)) (fun _ _ _ _ _ => pts_one (pt_cmpR (op_neD hr.units) (pv 2) (pv 1) (nomark _))) (fun _ _ _ _ _ => pv 2)) pa_nil)))), ?_⟩
    have lws := hI.length
    rw [List.length_map] at lws
    have few := wok.few
    refine ⟨_, rfl, T, _, 0, _, rfl, rfl, SqT.of hT, atI_nat (j := 0) rfl, _, rfl, T, _, 1, _, rfl, rfl, SqT.of hT, atI_nat (j := 1) rfl, W, rfl, ⟨_, SqL.of hW⟩, fun D nD => ?_⟩
    refine lc_it (walk_list (K := K) (a := W) (xs := ws)) (fun t H' => ∃ acc, H' D = some (.lst acc) ∧ Ims H' acc (((ways.take t).filter fun u => decide (u ≠ z)).map wayD3) ∧ Same H H')
        ⟨[], upd_same, .nil, same_new nD⟩ (fun i H' _ ⟨_, _, _, s⟩ => SqL.of (s _ _ hW)) ?_ ?_
    · rintro t x H7 H8 ht ⟨acc, hacc, iA, s7⟩ ⟨rfl, ex⟩
      have tl : t < ways.length := by omega
      obtain ⟨d, ed, imx⟩ := Ims.at (hI.on (TS.same s7)) ex
      rw [List.getElem?_map, List.getElem?_eq_getElem tl] at ed
      cases ed
      have etk : ways.take (t + 1) = ways.take t ++ [ways[t]] := by
        rw [List.take_add_one, List.getElem?_eq_getElem tl]
        rfl
      have ymem : ways[t] ∈ ways := List.getElem_mem tl
      generalize ways[t] = y at imx etk ymem
      have triy := y3_sm wok y ymem
      have tris := y3_sm wok z zm
      have lacc : acc.length ≤ 150 := by
        rw [iA.length, List.length_map]
        refine Nat.le_trans (List.length_filter_le _ _) ?_
        rw [List.length_take]
        omega
      refine ⟨rfl, _, rfl, _, rfl, wayD3 y, wayD3 z, imx.dp, (way_im (s7 _ _ hb)).dp, (Sm.way triy).shaped (by decide), (Sm.way tris).shaped (by decide), _, rfl, ?_⟩
      rw [eqv_place]
      by_cases e : y = z
      · rw [decide_eq_true e]
        refine iteF ⟨acc, hacc, ?_, s7⟩
        rw [etk, List.filter_append, show ([y].filter fun u => decide (u ≠ z)) = [] by simp [e], List.append_nil]
        exact iA
      · rw [decide_eq_false e]
        refine iteT ⟨_, rfl, acc, hacc, Nat.lt_of_le_of_lt lacc (by decide), acc ++ [x], upd_same, ?_, same_at s7 nD⟩
        rw [etk, List.filter_append, show ([y].filter fun u => decide (u ≠ z)) = [y] by simp [e], List.map_append]
        exact (iA.append (.cons imx .nil)).on (TS.lst hacc)
    · rintro H7 ⟨acc, hacc, iA, s7⟩
      rw [List.take_of_length_le (by omega)] at iA
      refine ⟨by show 2 ≤ sizeLine; decide, fun R nR => ?_⟩
      exact q R D acc _ (s7.trans (same_new nR)) nD upd_same (same_new nR _ _ hacc) (iA.on (TS.new nR))
structure WayDefs (P : Program) (w : World) (K : PySem.W.Frag) (mg : Str → Option Value) (base : Heap) where
  {f1 f2 f3 f4 f5 : Addr}
  {fd1 fd2 fd3 fd4 fd5 : FuncData}
  D1 : Def K mg "own_web" f1 fd1 ["web"]
  G1 : FnOk P w K mg base CX0 6 f1 fd1 ["web"] spOwnWeb
  D2 : Def K mg "own_pair" f2 fd2 ["web", "one", "other"]
  G2 : FnOk P w K mg base CX0 2 f2 fd2 ["web", "one", "other"] spOwnPair
  D3 : Def K mg "are_way_beats" f3 fd3 ["thing"]
  G3 : FnOk P w K mg base CX0 2 f3 fd3 ["thing"] (spJudge K beatsD)
  D4 : Def K mg "beats_between" f4 fd4 ["web", "one", "other"]
  G4 : FnOk P w K mg base CX0 1 f4 fd4 ["web", "one", "other"] spBetween
  D5 : Def K mg "less_way" f5 fd5 ["web", "way"]
  G5 : FnOk P w K mg base CX0 1 f5 fd5 ["web", "way"] spLessWay
abbrev nWithWay : List Str := ["web", "one", "other", "beats", "own", "low", "high"]
theorem scWithWay : FnScope nWithWay ["web", "one", "other", "beats"] (defScope sWithWay) := ⟨rfl, rfl, rfl, by decide +kernel, rfl, by decide +kernel, by decide +kernel⟩
theorem ok_with_way {f : Addr} {fd : FuncData} (F : Fun K "with_way" "with_way" sWithWay f fd) (mL : mg "len" = none) (mS : mg "sorted" = none) {tk : Tok} (mW : mg "MOST_WAYS" = some (.int 150 tk)) (D : WayDefs P w K mg base) : FnOk P w K mg base CX0 8 f fd ["web", "one", "other", "beats"] spWithWay := by
  refine F.ok scWithWay (fun vs H Q E h => ?_) (fun cdv A outer s H vs Q E hr h => ?_)
  · obtain ⟨vw, dw, x, y, b, rfl, _⟩ := h
    rfl
  · obtain ⟨vw, dw, x, y, b, rfl, hd, hw, xm, ym, ne, b1, b2, no, few, q⟩ := h
    have hr1 := hr.mono (show 1 ≤ 7 by decide)
    have hr2 := hr.mono (show 2 ≤ 7 by decide)
    have hr6 := hr.mono (show 6 ≤ 7 by decide)
    refine ⟨_, pss_cons (ps_set (i := 4) scWithWay.nd rfl (Or.inl rfl) (pe_call D.G1 hr6 (by rfl) D.D1.at_ D.D1.kp D.D1.b .nil pass0 (pa_cons (pv 0) pa_nil)))
      (pss_cons (ps_asg (pe_call D.G2 hr2 (by rfl) D.D2.at_ D.D2.kp D.D2.b .nil pass0 (pa_cons (pv 4) (pa_cons (pv 1) (pa_cons (pv 2) pa_nil)))) (pg_row rfl (pgs_cons (pg_name (i := 5) scWithWay.nd rfl (Or.inl rfl)) (pgs_cons (pg_name (i := 6) scWithWay.nd rfl (Or.inl rfl)) pgs_nil))))
      (pss_cons (ps_if (pt_not (pt_val (pe_call D.G3 hr2 (by rfl) D.D3.at_ D.D3.kp D.D3.b .nil pass0 (pa_cons (pv 3) pa_nil)))) (pss_one ps_never) pss_nil)
      (pss_cons (ps_if (pt_cmpR op_gt (pe_call D.G4 hr1 (by rfl) D.D4.at_ D.D4.kp D.D4.b .nil pass0 (pa_cons (pv 4) (pa_cons (pv 5) (pa_cons (pv 6) pa_nil)))) pe_int (nomark _)) (pss_one ps_never) pss_nil)
      (pss_cons (ps_if (pt_cmpR op_eq (pe_callB call_len_seq (by rfl) mL (by decide +kernel) (pa_cons (pe_ix ix_tup (pv 4) pe_int (fun _ _ => rfl)) pa_nil)) (pe_glob (v := .int 150) rfl mW ⟨_, rfl⟩) (nomark _)) (pss_one ps_never) pss_nil)
      (pss_one (ps_ret (pe_tup (pa_cons (pe_ix ix_tup (pv 4) pe_int (fun _ _ => rfl)) (pa_cons (pe_callB (cr_sortedDR hr.units) (by rfl) mS (by decide +kernel) (pa_cons
          (pe_lst (StX.pa_star (pe_ix ix_tup (pv 4) pe_int (fun _ _ => rfl)) (pa_cons (pe_tup (pa_cons (pv 5) (pa_cons (pv 6) (pa_cons (pv 3) pa_nil)))) pa_nil))) pa_nil)) pa_nil))))))))), ?_⟩
    obtain ⟨wok, _⟩ := webOk_of hd hw
    have pn := pw_nd (rise_pw _ wok.upw)
    refine ⟨_, rfl, vw, dw, rfl, hd, hw, fun T H1 O => ?_⟩
    obtain ⟨F', W, ws, hT, nF, nW, hF, hW, hI⟩ := O.ex
    have s1 := O.same
    obtain ⟨mm1, mm2⟩ := min_of x y
    have lt := min_lt_max ne
    refine ⟨_, rfl, _, rfl, _, rfl, T, x, y, _, _, rfl, O.web, wok.ok, xm, ym, ne, fun p H2 s2 np hp => ?_⟩
    refine ⟨p, _, rfl, .inl (SqL.of hp), rfl, _, _, rfl, _, _, rfl, rfl, ?_⟩
    refine ⟨_, rfl, .int b, .int b, rfl, .int b, fun H3 s3 => ⟨_, rfl, ?_⟩⟩
    rw [show beatsD (.int b) = true from by unfold beatsD; simp [b1, b2]]
    have s13 := s2.trans s3
    have hT3 := s13 _ _ hT
    have hF3 := s13 _ _ hF
    have hW3 := s13 _ _ hW
    have hI3 := hI.on (TS.same s13)
    refine iteF ⟨_, rfl, _, rfl, _, rfl, T, _, _, _, _, rfl, O.web.on s13, _, _, rfl, rfl, _, rfl, ?_⟩
    rw [between_none fun u hu hh => no u hu (Prod.ext hh.1 hh.2)]
    refine iteF ⟨_, rfl, T, _, 1, _, rfl, rfl, SqT.of hT3, atI_nat (j := 1) rfl, W, ws, rfl, .inl (SqL.of hW3), rfl, _, rfl, ?_⟩
    have lws := hI.length
    rw [List.length_map] at lws
    rw [dec_int, decide_eq_false (show ¬ ((ws.length : Nat) : Int) = 150 by omega)]
    refine iteF ⟨_, rfl, T, _, 0, _, rfl, rfl, SqT.of hT3, atI_nat (j := 0) rfl, _, rfl, T, _, 1, _, rfl, rfl, SqT.of hT3, atI_nat (j := 1) rfl, W, ws, rfl, .inr (SqL.of hW3), _, rfl, _, rfl, _, rfl, by show 3 ≤ sizeLine; decide, fun t nt => ⟨?_, fun l nl => ?_⟩⟩
    · rw [List.length_append]
      exact Nat.le_trans (show ws.length + 1 ≤ 151 by omega) (by decide)
    have s4 := same_new (o := .tup [.str (minS x y), .str (maxS x y), .int b]) nt
    have s5 := s4.trans (same_new (o := .lst (ws ++ [.ref t])) nl)
    have s15 := s13.trans s5
    have pn2 : PairsNd (waysOf dw ++ [(minS x y, maxS x y, b)]) := by
      unfold PairsNd
      rw [List.map_append]
      refine List.nodup_append.mpr ⟨pn, by simp, fun u hu v hv e => ?_⟩
      obtain ⟨z, hz, rfl⟩ := List.mem_map.mp hu
      rw [List.map_singleton, List.mem_singleton] at hv
      exact no z hz (e.trans hv)
    have im : Ims (upd (upd H3 t (.tup [.str (minS x y), .str (maxS x y), .int b])) l (.lst (ws ++ [.ref t]))) (ws ++ [.ref t]) ((waysOf dw ++ [(minS x y, maxS x y, b)]).map wayD3) := by
      rw [List.map_append]
      exact (hI3.on (TS.same s5)).append (.cons (way_im (y := (minS x y, maxS x y, b)) (same_new nl _ _ upd_same)) .nil)
    refine sorted_rows (Q := fun v H' => _) upd_same im fun r us nr im2 => ⟨by show 2 ≤ sizeLine; decide, fun Tg nTg => ?_⟩
    have s6 := s15.trans (same_new (o := .lst us) nr)
    have s7 := s6.trans (same_new (o := .tup [.ref F', .ref r]) nTg)
    refine q Tg F' r us _ _ (s1.trans s7) nF ((s1.trans s15).free nr) upd_same (s7 _ _ hF) (same_new nTg _ _ upd_same) (im2.on (TS.new nTg)) ?_ (rise_pw _ (sorted_rise pn2))
    exact (sortB_perm wayD3 _).trans (List.perm_append_comm)
abbrev nWithout : List Str := ["web", "one", "other", "own", "low", "high", "beats"]
theorem scWithout : FnScope nWithout ["web", "one", "other"] (defScope sWithoutWay) := ⟨rfl, rfl, rfl, by decide +kernel, rfl, by decide +kernel, by decide +kernel⟩
theorem ok_without_way {f : Addr} {fd : FuncData} (F : Fun K "without_way" "without_way" sWithoutWay f fd) (D : WayDefs P w K mg base) : FnOk P w K mg base CX0 8 f fd ["web", "one", "other"] spWithout := by
  refine F.ok scWithout (fun vs H Q E h => ?_) (fun cdv A outer s H vs Q E hr h => ?_)
  · obtain ⟨vw, dw, x, y, rfl, _⟩ := h
    rfl
  · obtain ⟨vw, dw, x, y, rfl, hd, hw, xm, ym, ne, ⟨z, zm, zp⟩, q⟩ := h
    have hr1 := hr.mono (show 1 ≤ 7 by decide)
    have hr2 := hr.mono (show 2 ≤ 7 by decide)
    have hr6 := hr.mono (show 6 ≤ 7 by decide)
    refine ⟨_, pss_cons (ps_set (i := 3) scWithout.nd rfl (Or.inl rfl) (pe_call D.G1 hr6 (by rfl) D.D1.at_ D.D1.kp D.D1.b .nil pass0 (pa_cons (pv 0) pa_nil)))
      (pss_cons (ps_asg (pe_call D.G2 hr2 (by rfl) D.D2.at_ D.D2.kp D.D2.b .nil pass0 (pa_cons (pv 3) (pa_cons (pv 1) (pa_cons (pv 2) pa_nil)))) (pg_row rfl (pgs_cons (pg_name (i := 4) scWithout.nd rfl (Or.inl rfl)) (pgs_cons (pg_name (i := 5) scWithout.nd rfl (Or.inl rfl)) pgs_nil))))
      (pss_cons (ps_set (i := 6) scWithout.nd rfl (Or.inl rfl) (pe_call D.G4 hr1 (by rfl) D.D4.at_ D.D4.kp D.D4.b .nil pass0 (pa_cons (pv 3) (pa_cons (pv 4) (pa_cons (pv 5) pa_nil)))))
      (pss_cons (ps_if (pt_cmpR op_eq (pv 6) pe_int (nomark _)) (pss_one ps_never) pss_nil)
      (pss_one (ps_ret (pe_call D.G5 hr1 (by rfl) D.D5.at_ D.D5.kp D.D5.b .nil pass0 (pa_cons (pv 3) (pa_cons (pe_tup (pa_cons (pv 4) (pa_cons (pv 5) (pa_cons (pv 6) pa_nil)))) pa_nil)))))))), ?_⟩
    obtain ⟨wok, _⟩ := webOk_of hd hw
    have pn := pw_nd (rise_pw _ wok.upw)
    refine ⟨_, rfl, vw, dw, rfl, hd, hw, fun T H1 O => ?_⟩
    obtain ⟨F', W, ws, hT, nF, nW, hF, hW, hI⟩ := O.ex
    have s1 := O.same
    refine ⟨_, rfl, _, rfl, _, rfl, T, x, y, _, _, rfl, O.web, wok.ok, xm, ym, ne, fun p H2 s2 np hp => ?_⟩
    refine ⟨p, _, rfl, .inl (SqL.of hp), rfl, _, _, rfl, _, _, rfl, rfl, ?_⟩
    refine ⟨_, rfl, _, rfl, _, rfl, T, _, _, _, _, rfl, O.web.on s2, ?_⟩
    have e1 : z.1 = minS x y := congrArg Prod.fst zp
    have e2 : z.2.1 = maxS x y := congrArg Prod.snd zp
    have eb := between_z pn zm
    rw [e1, e2] at eb
    rw [eb]
    have z1 := (wok.way z zm).2.2.1
    refine ⟨_, rfl, rfl, _, rfl, ?_⟩
    rw [dec_int, decide_eq_false (show ¬ z.2.2 = 0 by omega)]
    refine iteF ⟨_, rfl, _, rfl, _, rfl, _, rfl, by show 3 ≤ sizeLine; decide, fun t nt => ?_⟩
    have s3 := same_new (o := .tup [.str (minS x y), .str (maxS x y), .int z.2.2]) nt
    have s13 := s2.trans s3
    refine ⟨T, F', W, t, ws, _, _, z, rfl, s13 _ _ hT, s13 _ _ hF, s13 _ _ hW, hI.on (TS.same s13), wok, zm, by rw [e1, e2]; exact upd_same, fun R L us H4 s4 nL hR hL hI4 => ?_⟩
    have s14 := s13.trans s4
    refine q R F' L us H4 (s1.trans s14) nF ((s1.trans s13).free nL) hR (s14 _ _ hF) hL ?_
    have := (ways_less pn zm).2.2
    rw [e1, e2] at this
    rw [this]
    exact hI4
end
end Cry
namespace Cry
open PySem PySem.Spec PyProof.Rows L2
/-- what the top has written -/
theorem all_mk {l : PySem.W.OpenLaw} {w : World} {K : PySem.W.Frag} {h : Heap} {mg : Str → Option Value} {fa : Addr} (X : K.In h) (G : h.Ns mainGlobals mg) (hfa : mg "law" = some (.ref fa))
    {f1 f2 f3 f4 f5 f6 f7 f8 f9 f10 f11 f12 f13 f14 f15 f16 f17 f18 f19 f20 f21 f22 f23 f24 : Addr} {od1 od2 od3 od4 od5 od6 od7 od8 od9 od10 od11 od12 od13 od14 od15 od16 od17 od18 od19 od20 od21 od22 od23 od24 an1 an2 an3 an4 an5 an6 an7 an8 an9 an10 an11 an12 an13 an14 an15 an16 an17 an18 an19 an20 an21 an22 an23 an24 : Option Addr} {sl1 sl2 sl3 sl4 sl5 sl6 sl7 sl8 sl9 sl10 sl11 sl12 sl13 sl14 sl15 sl16 sl17 sl18 sl19 sl20 sl21 sl22 sl23 sl24 : Array (Option Value)} {oc1 oc2 oc3 oc4 oc5 oc6 oc7 oc8 oc9 oc10 oc11 oc12 oc13 oc14 oc15 oc16 oc17 oc18 oc19 oc20 oc21 oc22 oc23 oc24 kV1 kV2 kV3 kV4 kV5 kV6 kV7 kV8 kV9 kV10 kV11 kV12 kV13 kV14 kV15 kV16 kV17 kV18 kV19 kV20 kV21 kV22 kV23 kV24 dc1 dc2 dc3 dc4 dc5 dc6 dc7 dc8 dc9 dc10 dc11 dc12 dc13 dc14 dc15 dc16 dc17 dc18 dc19 dc20 dc21 dc22 dc23 dc24 pm1 pm2 pm3 pm4 pm5 pm6 pm7 pm8 pm9 pm10 pm11 pm12 pm13 pm14 pm15 pm16 pm17 pm18 pm19 pm20 pm21 pm22 pm23 pm24 cd1 cd2 cd3 cd4 cd5 cd6 cd7 cd8 cd9 cd10 cd11 cd12 cd13 cd14 cd15 cd16 cd17 cd18 cd19 cd20 cd21 cd22 cd23 cd24 ct1 ct2 ct3 ct4 ct5 ct6 ct7 ct8 ct9 ct10 ct11 ct12 ct13 ct14 ct15 ct16 ct17 ct18 ct19 ct20 ct21 ct22 ct23 ct24 : Value} {tk1 tk2 tk3 tk4 tk5 : Tok}
    (a1 : PySem.W.nsIn K mainGlobals "is_whole" = some (some (.ref f1))) (l1 : K.lookup f1 = some ⟨oc1, od1, .func (PySem.W.fnOf "is_whole" "is_whole" (defArgs sIsWhole) (defBody sIsWhole) (defScope sIsWhole) .none kV1 dc1 pm1 an1 cd1 ct1), sl1⟩) (c1 : PySem.W.codeIn K cd1 "is_whole" = true) (k1 : PySem.W.keepIn K (.ref f1) = true)
    (a2 : PySem.W.nsIn K mainGlobals "is_row" = some (some (.ref f2))) (l2 : K.lookup f2 = some ⟨oc2, od2, .func (PySem.W.fnOf "is_row" "is_row" (defArgs sIsRow) (defBody sIsRow) (defScope sIsRow) .none kV2 dc2 pm2 an2 cd2 ct2), sl2⟩) (c2 : PySem.W.codeIn K cd2 "is_row" = true) (k2 : PySem.W.keepIn K (.ref f2) = true)
    (a3 : PySem.W.nsIn K mainGlobals "is_row_of" = some (some (.ref f3))) (l3 : K.lookup f3 = some ⟨oc3, od3, .func (PySem.W.fnOf "is_row_of" "is_row_of" (defArgs sIsRowOf) (defBody sIsRowOf) (defScope sIsRowOf) .none kV3 dc3 pm3 an3 cd3 ct3), sl3⟩) (c3 : PySem.W.codeIn K cd3 "is_row_of" = true) (k3 : PySem.W.keepIn K (.ref f3) = true)
    (a4 : PySem.W.nsIn K mainGlobals "is_name" = some (some (.ref f4))) (l4 : K.lookup f4 = some ⟨oc4, od4, .func (PySem.W.fnOf "is_name" "is_name" (defArgs sIsName) (defBody sIsName) (defScope sIsName) .none kV4 dc4 pm4 an4 cd4 ct4), sl4⟩) (c4 : PySem.W.codeIn K cd4 "is_name" = true) (k4 : PySem.W.keepIn K (.ref f4) = true)
    (a5 : PySem.W.nsIn K mainGlobals "rises" = some (some (.ref f5))) (l5 : K.lookup f5 = some ⟨oc5, od5, .func (PySem.W.fnOf "rises" "rises" (defArgs sRises) (defBody sRises) (defScope sRises) .none kV5 dc5 pm5 an5 cd5 ct5), sl5⟩) (c5 : PySem.W.codeIn K cd5 "rises" = true) (k5 : PySem.W.keepIn K (.ref f5) = true)
    (a6 : PySem.W.nsIn K mainGlobals "is_web" = some (some (.ref f6))) (l6 : K.lookup f6 = some ⟨oc6, od6, .func (PySem.W.fnOf "is_web" "is_web" (defArgs sIsWeb) (defBody sIsWeb) (defScope sIsWeb) .none kV6 dc6 pm6 an6 cd6 ct6), sl6⟩) (c6 : PySem.W.codeIn K cd6 "is_web" = true) (k6 : PySem.W.keepIn K (.ref f6) = true)
    (a7 : PySem.W.nsIn K mainGlobals "are_folk" = some (some (.ref f7))) (l7 : K.lookup f7 = some ⟨oc7, od7, .func (PySem.W.fnOf "are_folk" "are_folk" (defArgs sAreFolk) (defBody sAreFolk) (defScope sAreFolk) .none kV7 dc7 pm7 an7 cd7 ct7), sl7⟩) (c7 : PySem.W.codeIn K cd7 "are_folk" = true) (k7 : PySem.W.keepIn K (.ref f7) = true)
    (a8 : PySem.W.nsIn K mainGlobals "are_ways" = some (some (.ref f8))) (l8 : K.lookup f8 = some ⟨oc8, od8, .func (PySem.W.fnOf "are_ways" "are_ways" (defArgs sAreWays) (defBody sAreWays) (defScope sAreWays) .none kV8 dc8 pm8 an8 cd8 ct8), sl8⟩) (c8 : PySem.W.codeIn K cd8 "are_ways" = true) (k8 : PySem.W.keepIn K (.ref f8) = true)
    (a9 : PySem.W.nsIn K mainGlobals "is_way" = some (some (.ref f9))) (l9 : K.lookup f9 = some ⟨oc9, od9, .func (PySem.W.fnOf "is_way" "is_way" (defArgs sIsWay) (defBody sIsWay) (defScope sIsWay) .none kV9 dc9 pm9 an9 cd9 ct9), sl9⟩) (c9 : PySem.W.codeIn K cd9 "is_way" = true) (k9 : PySem.W.keepIn K (.ref f9) = true)
    (a10 : PySem.W.nsIn K mainGlobals "are_way_beats" = some (some (.ref f10))) (l10 : K.lookup f10 = some ⟨oc10, od10, .func (PySem.W.fnOf "are_way_beats" "are_way_beats" (defArgs sAreWayBeats) (defBody sAreWayBeats) (defScope sAreWayBeats) .none kV10 dc10 pm10 an10 cd10 ct10), sl10⟩) (c10 : PySem.W.codeIn K cd10 "are_way_beats" = true) (k10 : PySem.W.keepIn K (.ref f10) = true)
    (a11 : PySem.W.nsIn K mainGlobals "own_web" = some (some (.ref f11))) (l11 : K.lookup f11 = some ⟨oc11, od11, .func (PySem.W.fnOf "own_web" "own_web" (defArgs sOwnWeb) (defBody sOwnWeb) (defScope sOwnWeb) .none kV11 dc11 pm11 an11 cd11 ct11), sl11⟩) (c11 : PySem.W.codeIn K cd11 "own_web" = true) (k11 : PySem.W.keepIn K (.ref f11) = true)
    (a12 : PySem.W.nsIn K mainGlobals "beats_between" = some (some (.ref f12))) (l12 : K.lookup f12 = some ⟨oc12, od12, .func (PySem.W.fnOf "beats_between" "beats_between" (defArgs sBetween) (defBody sBetween) (defScope sBetween) .none kV12 dc12 pm12 an12 cd12 ct12), sl12⟩) (c12 : PySem.W.codeIn K cd12 "beats_between" = true) (k12 : PySem.W.keepIn K (.ref f12) = true)
    (a13 : PySem.W.nsIn K mainGlobals "own_pair" = some (some (.ref f13))) (l13 : K.lookup f13 = some ⟨oc13, od13, .func (PySem.W.fnOf "own_pair" "own_pair" (defArgs sOwnPair) (defBody sOwnPair) (defScope sOwnPair) .none kV13 dc13 pm13 an13 cd13 ct13), sl13⟩) (c13 : PySem.W.codeIn K cd13 "own_pair" = true) (k13 : PySem.W.keepIn K (.ref f13) = true)
    (a14 : PySem.W.nsIn K mainGlobals "with_way" = some (some (.ref f14))) (l14 : K.lookup f14 = some ⟨oc14, od14, .func (PySem.W.fnOf "with_way" "with_way" (defArgs sWithWay) (defBody sWithWay) (defScope sWithWay) .none kV14 dc14 pm14 an14 cd14 ct14), sl14⟩) (c14 : PySem.W.codeIn K cd14 "with_way" = true) (k14 : PySem.W.keepIn K (.ref f14) = true)
    (a15 : PySem.W.nsIn K mainGlobals "without_way" = some (some (.ref f15))) (l15 : K.lookup f15 = some ⟨oc15, od15, .func (PySem.W.fnOf "without_way" "without_way" (defArgs sWithoutWay) (defBody sWithoutWay) (defScope sWithoutWay) .none kV15 dc15 pm15 an15 cd15 ct15), sl15⟩) (c15 : PySem.W.codeIn K cd15 "without_way" = true) (k15 : PySem.W.keepIn K (.ref f15) = true)
    (a16 : PySem.W.nsIn K mainGlobals "less_way" = some (some (.ref f16))) (l16 : K.lookup f16 = some ⟨oc16, od16, .func (PySem.W.fnOf "less_way" "less_way" (defArgs sLessWay) (defBody sLessWay) (defScope sLessWay) .none kV16 dc16 pm16 an16 cd16 ct16), sl16⟩) (c16 : PySem.W.codeIn K cd16 "less_way" = true) (k16 : PySem.W.keepIn K (.ref f16) = true)
    (a17 : PySem.W.nsIn K mainGlobals "_law_reel" = some (some (.ref f17))) (l17 : K.lookup f17 = some ⟨oc17, od17, .func (PySem.W.fnOf "_law_reel" "_law_reel" (defArgs sLReel) (defBody sLReel) (defScope sLReel) .none kV17 dc17 pm17 an17 cd17 ct17), sl17⟩) (c17 : PySem.W.codeIn K cd17 "_law_reel" = true) (k17 : PySem.W.keepIn K (.ref f17) = true)
    (a18 : PySem.W.nsIn K mainGlobals "_law_draw" = some (some (.ref f18))) (l18 : K.lookup f18 = some ⟨oc18, od18, .func (PySem.W.fnOf "_law_draw" "_law_draw" (defArgs sDraw) (defBody sDraw) (defScope sDraw) .none kV18 dc18 pm18 an18 cd18 ct18), sl18⟩) (c18 : PySem.W.codeIn K cd18 "_law_draw" = true) (k18 : PySem.W.keepIn K (.ref f18) = true)
    (a19 : PySem.W.nsIn K mainGlobals "_law_names" = some (some (.ref f19))) (l19 : K.lookup f19 = some ⟨oc19, od19, .func (PySem.W.fnOf "_law_names" "_law_names" (defArgs sNames) (defBody sNames) (defScope sNames) .none kV19 dc19 pm19 an19 cd19 ct19), sl19⟩) (c19 : PySem.W.codeIn K cd19 "_law_names" = true) (k19 : PySem.W.keepIn K (.ref f19) = true)
    (a20 : PySem.W.nsIn K mainGlobals "_law_web" = some (some (.ref f20))) (l20 : K.lookup f20 = some ⟨oc20, od20, .func (PySem.W.fnOf "_law_web" "_law_web" (defArgs sWeb) (defBody sWeb) (defScope sWeb) .none kV20 dc20 pm20 an20 cd20 ct20), sl20⟩) (c20 : PySem.W.codeIn K cd20 "_law_web" = true) (k20 : PySem.W.keepIn K (.ref f20) = true)
    (a21 : PySem.W.nsIn K mainGlobals "_law_dressed_web" = some (some (.ref f21))) (l21 : K.lookup f21 = some ⟨oc21, od21, .func (PySem.W.fnOf "_law_dressed_web" "_law_dressed_web" (defArgs sLDressedWeb) (defBody sLDressedWeb) (defScope sLDressedWeb) .none kV21 dc21 pm21 an21 cd21 ct21), sl21⟩) (c21 : PySem.W.codeIn K cd21 "_law_dressed_web" = true) (k21 : PySem.W.keepIn K (.ref f21) = true)
    (a22 : PySem.W.nsIn K mainGlobals "_law_told_right" = some (some (.ref f22))) (l22 : K.lookup f22 = some ⟨oc22, od22, .func (PySem.W.fnOf "_law_told_right" "_law_told_right" (defArgs sLToldRight) (defBody sLToldRight) (defScope sLToldRight) .none kV22 dc22 pm22 an22 cd22 ct22), sl22⟩) (c22 : PySem.W.codeIn K cd22 "_law_told_right" = true) (k22 : PySem.W.keepIn K (.ref f22) = true)
    (a23 : PySem.W.nsIn K mainGlobals "_law_full_right" = some (some (.ref f23))) (l23 : K.lookup f23 = some ⟨oc23, od23, .func (PySem.W.fnOf "_law_full_right" "_law_full_right" (defArgs sLFullRight) (defBody sLFullRight) (defScope sLFullRight) .none kV23 dc23 pm23 an23 cd23 ct23), sl23⟩) (c23 : PySem.W.codeIn K cd23 "_law_full_right" = true) (k23 : PySem.W.keepIn K (.ref f23) = true)
    (a24 : PySem.W.nsIn K mainGlobals "law" = some (some (.ref f24))) (l24 : K.lookup f24 = some ⟨oc24, od24, .func (PySem.W.fnOf "law" "law" (defArgs sLaw) (defBody sLaw) (defScope sLaw) .none kV24 dc24 pm24 an24 cd24 ct24), sl24⟩) (c24 : PySem.W.codeIn K cd24 "law" = true) (k24 : PySem.W.keepIn K (.ref f24) = true)
    (z_isinstance : PySem.W.nsIn K mainGlobals "isinstance" = some none)
    (z_int : PySem.W.nsIn K mainGlobals "int" = some none)
    (z_bool : PySem.W.nsIn K mainGlobals "bool" = some none)
    (z_str : PySem.W.nsIn K mainGlobals "str" = some none)
    (z_list : PySem.W.nsIn K mainGlobals "list" = some none)
    (z_tuple : PySem.W.nsIn K mainGlobals "tuple" = some none)
    (z_len : PySem.W.nsIn K mainGlobals "len" = some none)
    (z_all : PySem.W.nsIn K mainGlobals "all" = some none)
    (z_zip : PySem.W.nsIn K mainGlobals "zip" = some none)
    (z_range : PySem.W.nsIn K mainGlobals "range" = some none)
    (z_sorted : PySem.W.nsIn K mainGlobals "sorted" = some none)
    (z_min : PySem.W.nsIn K mainGlobals "min" = some none)
    (z_max : PySem.W.nsIn K mainGlobals "max" = some none)
    (z_set : PySem.W.nsIn K mainGlobals "set" = some none)
    (z_repr : PySem.W.nsIn K mainGlobals "repr" = some none)
    (v_LETTERS : PySem.W.nsIn K mainGlobals "LETTERS" = some (some (.str abc tk1)))
    (v_MOST_LETTERS : PySem.W.nsIn K mainGlobals "MOST_LETTERS" = some (some (.int 8 tk2)))
    (v_MOST_FOLK : PySem.W.nsIn K mainGlobals "MOST_FOLK" = some (some (.int 60 tk3)))
    (v_MOST_WAYS : PySem.W.nsIn K mainGlobals "MOST_WAYS" = some (some (.int 150 tk4)))
    (v_MOST_BEATS : PySem.W.nsIn K mainGlobals "MOST_BEATS" = some (some (.int 1000000000000 tk5)))
    : ∃ fd : FuncData, (∀ (s : Shared) (v : Value), BindsTo s fd ⟨[v], []⟩ [("script", v)]) ∧ ∀ base : Heap, K.In base → base.Ns mainGlobals mg → FnG l.prog w K mg base CX0 10 fa fd ["script"] (spLaw K) := by
  have e := hfa.symm.trans (PySem.W.mg_of X G a24)
  cases e
  have F1 := fun_mk (st := sIsWhole) l1 c1 k1
  have D1 : Def K mg "is_whole" f1 _ ["thing"] := ⟨PySem.W.mg_of X G a1, k1, F1.binds (ps := ["thing"]) fun _ _ _ _ _ _ us hl => match us, hl with | [_], _ => rfl⟩
  have F2 := fun_mk (st := sIsRow) l2 c2 k2
  have D2 : Def K mg "is_row" f2 _ ["thing"] := ⟨PySem.W.mg_of X G a2, k2, F2.binds (ps := ["thing"]) fun _ _ _ _ _ _ us hl => match us, hl with | [_], _ => rfl⟩
  have F3 := fun_mk (st := sIsRowOf) l3 c3 k3
  have D3 : Def K mg "is_row_of" f3 _ ["many", "thing"] := ⟨PySem.W.mg_of X G a3, k3, F3.binds (ps := ["many", "thing"]) fun _ _ _ _ _ _ us hl => match us, hl with | [_, _], _ => rfl⟩
  have F4 := fun_mk (st := sIsName) l4 c4 k4
  have D4 : Def K mg "is_name" f4 _ ["thing"] := ⟨PySem.W.mg_of X G a4, k4, F4.binds (ps := ["thing"]) fun _ _ _ _ _ _ us hl => match us, hl with | [_], _ => rfl⟩
  have F5 := fun_mk (st := sRises) l5 c5 k5
  have D5 : Def K mg "rises" f5 _ ["things"] := ⟨PySem.W.mg_of X G a5, k5, F5.binds (ps := ["things"]) fun _ _ _ _ _ _ us hl => match us, hl with | [_], _ => rfl⟩
  have F6 := fun_mk (st := sIsWeb) l6 c6 k6
  have D6 : Def K mg "is_web" f6 _ ["thing"] := ⟨PySem.W.mg_of X G a6, k6, F6.binds (ps := ["thing"]) fun _ _ _ _ _ _ us hl => match us, hl with | [_], _ => rfl⟩
  have F7 := fun_mk (st := sAreFolk) l7 c7 k7
  have D7 : Def K mg "are_folk" f7 _ ["thing"] := ⟨PySem.W.mg_of X G a7, k7, F7.binds (ps := ["thing"]) fun _ _ _ _ _ _ us hl => match us, hl with | [_], _ => rfl⟩
  have F8 := fun_mk (st := sAreWays) l8 c8 k8
  have D8 : Def K mg "are_ways" f8 _ ["folk", "thing"] := ⟨PySem.W.mg_of X G a8, k8, F8.binds (ps := ["folk", "thing"]) fun _ _ _ _ _ _ us hl => match us, hl with | [_, _], _ => rfl⟩
  have F9 := fun_mk (st := sIsWay) l9 c9 k9
  have D9 : Def K mg "is_way" f9 _ ["folk", "thing"] := ⟨PySem.W.mg_of X G a9, k9, F9.binds (ps := ["folk", "thing"]) fun _ _ _ _ _ _ us hl => match us, hl with | [_, _], _ => rfl⟩
  have F10 := fun_mk (st := sAreWayBeats) l10 c10 k10
  have D10 : Def K mg "are_way_beats" f10 _ ["thing"] := ⟨PySem.W.mg_of X G a10, k10, F10.binds (ps := ["thing"]) fun _ _ _ _ _ _ us hl => match us, hl with | [_], _ => rfl⟩
  have F11 := fun_mk (st := sOwnWeb) l11 c11 k11
  have D11 : Def K mg "own_web" f11 _ ["web"] := ⟨PySem.W.mg_of X G a11, k11, F11.binds (ps := ["web"]) fun _ _ _ _ _ _ us hl => match us, hl with | [_], _ => rfl⟩
  have F12 := fun_mk (st := sBetween) l12 c12 k12
  have D12 : Def K mg "beats_between" f12 _ ["web", "one", "other"] := ⟨PySem.W.mg_of X G a12, k12, F12.binds (ps := ["web", "one", "other"]) fun _ _ _ _ _ _ us hl => match us, hl with | [_, _, _], _ => rfl⟩
  have F13 := fun_mk (st := sOwnPair) l13 c13 k13
  have D13 : Def K mg "own_pair" f13 _ ["web", "one", "other"] := ⟨PySem.W.mg_of X G a13, k13, F13.binds (ps := ["web", "one", "other"]) fun _ _ _ _ _ _ us hl => match us, hl with | [_, _, _], _ => rfl⟩
  have F14 := fun_mk (st := sWithWay) l14 c14 k14
  have D14 : Def K mg "with_way" f14 _ ["web", "one", "other", "beats"] := ⟨PySem.W.mg_of X G a14, k14, F14.binds (ps := ["web", "one", "other", "beats"]) fun _ _ _ _ _ _ us hl => match us, hl with | [_, _, _, _], _ => rfl⟩
  have F15 := fun_mk (st := sWithoutWay) l15 c15 k15
  have D15 : Def K mg "without_way" f15 _ ["web", "one", "other"] := ⟨PySem.W.mg_of X G a15, k15, F15.binds (ps := ["web", "one", "other"]) fun _ _ _ _ _ _ us hl => match us, hl with | [_, _, _], _ => rfl⟩
  have F16 := fun_mk (st := sLessWay) l16 c16 k16
  have D16 : Def K mg "less_way" f16 _ ["web", "way"] := ⟨PySem.W.mg_of X G a16, k16, F16.binds (ps := ["web", "way"]) fun _ _ _ _ _ _ us hl => match us, hl with | [_, _], _ => rfl⟩
  have F17 := fun_mk (st := sLReel) l17 c17 k17
  have D17 : Def K mg "_law_reel" f17 _ ["script"] := ⟨PySem.W.mg_of X G a17, k17, F17.binds (ps := ["script"]) fun _ _ _ _ _ _ us hl => match us, hl with | [_], _ => rfl⟩
  have F18 := fun_mk (st := sDraw) l18 c18 k18
  have D18 : Def K mg "_law_draw" f18 _ ["reel", "many"] := ⟨PySem.W.mg_of X G a18, k18, F18.binds (ps := ["reel", "many"]) fun _ _ _ _ _ _ us hl => match us, hl with | [_, _], _ => rfl⟩
  have F19 := fun_mk (st := sNames) l19 c19 k19
  have D19 : Def K mg "_law_names" f19 _ ["reel", "many"] := ⟨PySem.W.mg_of X G a19, k19, F19.binds (ps := ["reel", "many"]) fun _ _ _ _ _ _ us hl => match us, hl with | [_, _], _ => rfl⟩
  have F20 := fun_mk (st := sWeb) l20 c20 k20
  have D20 : Def K mg "_law_web" f20 _ ["reel", "most", "wide"] := ⟨PySem.W.mg_of X G a20, k20, F20.binds (ps := ["reel", "most", "wide"]) fun _ _ _ _ _ _ us hl => match us, hl with | [_, _, _], _ => rfl⟩
  have F21 := fun_mk (st := sLDressedWeb) l21 c21 k21
  have D21 : Def K mg "_law_dressed_web" f21 _ ["reel", "web"] := ⟨PySem.W.mg_of X G a21, k21, F21.binds (ps := ["reel", "web"]) fun _ _ _ _ _ _ us hl => match us, hl with | [_, _], _ => rfl⟩
  have F22 := fun_mk (st := sLToldRight) l22 c22 k22
  have D22 : Def K mg "_law_told_right" f22 _ ["found", "due"] := ⟨PySem.W.mg_of X G a22, k22, F22.binds (ps := ["found", "due"]) fun _ _ _ _ _ _ us hl => match us, hl with | [_, _], _ => rfl⟩
  have F23 := fun_mk (st := sLFullRight) l23 c23 k23
  have D23 : Def K mg "_law_full_right" f23 _ ["reel"] := ⟨PySem.W.mg_of X G a23, k23, F23.binds (ps := ["reel"]) fun _ _ _ _ _ _ us hl => match us, hl with | [_], _ => rfl⟩
  have F24 := fun_mk (st := sLaw) l24 c24 k24
  have n_isinstance := PySem.W.mg_none_of X G z_isinstance
  have n_int := PySem.W.mg_none_of X G z_int
  have n_bool := PySem.W.mg_none_of X G z_bool
  have n_str := PySem.W.mg_none_of X G z_str
  have n_list := PySem.W.mg_none_of X G z_list
  have n_tuple := PySem.W.mg_none_of X G z_tuple
  have n_len := PySem.W.mg_none_of X G z_len
  have n_all := PySem.W.mg_none_of X G z_all
  have n_zip := PySem.W.mg_none_of X G z_zip
  have n_range := PySem.W.mg_none_of X G z_range
  have n_sorted := PySem.W.mg_none_of X G z_sorted
  have n_min := PySem.W.mg_none_of X G z_min
  have n_max := PySem.W.mg_none_of X G z_max
  have n_set := PySem.W.mg_none_of X G z_set
  have n_repr := PySem.W.mg_none_of X G z_repr
  have m_LETTERS := PySem.W.mg_of X G v_LETTERS
  have m_MOST_LETTERS := PySem.W.mg_of X G v_MOST_LETTERS
  have m_MOST_FOLK := PySem.W.mg_of X G v_MOST_FOLK
  have m_MOST_WAYS := PySem.W.mg_of X G v_MOST_WAYS
  have m_MOST_BEATS := PySem.W.mg_of X G v_MOST_BEATS
  have B : Blt mg := ⟨n_isinstance, n_int, n_bool, n_str, n_list, n_tuple, n_len, n_all, n_zip⟩
  refine ⟨PySem.W.fnOf "law" "law" (defArgs sLaw) (defBody sLaw) (defScope sLaw) .none kV24 dc24 pm24 an24 cd24 ct24, fun s v => .of_eq rfl, fun base _ _ => ?_⟩
  have G1 := ok_is_whole (P := l.prog) (w := w) (mg := mg) (base := base) F1 B
  have G2 := ok_is_row (P := l.prog) (w := w) (mg := mg) (base := base) F2 B
  have G3 := ok_is_row_of (P := l.prog) (w := w) (mg := mg) (base := base) F3 B D2 G2
  have G4 := ok_is_name (P := l.prog) (w := w) (mg := mg) (base := base) F4 B m_LETTERS m_MOST_LETTERS
  have G5 := ok_rises (P := l.prog) (w := w) (mg := mg) (base := base) F5 B
  have G10 := ok_are_way_beats (P := l.prog) (w := w) (mg := mg) (base := base) F10 D1 G1 m_MOST_BEATS
  have T : FormDefs l.prog w K mg base := ⟨D3, G3, D4, G4, D10, G10, D2, G2⟩
  have G9 := ok_is_way (P := l.prog) (w := w) (mg := mg) (base := base) F9 T
  have G7 := ok_are_folk (P := l.prog) (w := w) (mg := mg) (base := base) F7 B T D5 G5 m_MOST_FOLK
  have G8 := ok_are_ways (P := l.prog) (w := w) (mg := mg) (base := base) F8 B T D5 G5 D9 G9 m_MOST_WAYS
  have G6 := ok_is_web (P := l.prog) (w := w) (mg := mg) (base := base) F6 T D7 G7 D8 G8
  have G11 := ok_own_web (P := l.prog) (w := w) (mg := mg) (base := base) F11 B D6 G6
  have G12 := ok_between (P := l.prog) (w := w) (mg := mg) (base := base) F12 
  have G13 := ok_own_pair (P := l.prog) (w := w) (mg := mg) (base := base) F13 n_sorted T
  have G16 := ok_less_way (P := l.prog) (w := w) (mg := mg) (base := base) F16 
  have WD : WayDefs l.prog w K mg base := ⟨D11, G11, D13, G13, D10, G10, D12, G12, D16, G16⟩
  have G14 := ok_with_way (P := l.prog) (w := w) (mg := mg) (base := base) F14 n_len n_sorted m_MOST_WAYS WD
  have G15 := ok_without_way (P := l.prog) (w := w) (mg := mg) (base := base) F15 WD
  have G17 := ok_reel (P := l.prog) (w := w) (mg := mg) (base := base) F17 
  have G18 := ok_rdraw (P := l.prog) (w := w) (mg := mg) (base := base) F18 n_len n_int
  have G19 := ok_rnames (P := l.prog) (w := w) (mg := mg) (base := base) F19 n_len n_sorted n_range n_list D18 G18
  have G20 := ok_rweb (P := l.prog) (w := w) (mg := mg) (base := base) F20 n_len n_range n_sorted n_min n_max D18 G18 D19 G19
  have G21 := ok_rdress (P := l.prog) (w := w) (mg := mg) (base := base) F21 n_list n_tuple D18 G18
  have G22 := ok_rtold (P := l.prog) (w := w) (mg := mg) (base := base) F22 B n_repr D6 G6
  have PD : PutDefs l.prog w K mg base := ⟨f18, f19, f22, f14, f15, _, _, _, _, _, D18, G18, D19, G19, D22, G22, D14, G14, D15, G15⟩
  have G23 := ok_rfull (P := l.prog) (w := w) (mg := mg) (base := base) F23 n_len n_range PD
  have MD : MoreDefs l.prog w K mg base := ⟨f17, f20, f21, f23, _, _, _, _, D17, G17, D20, G20, D21, G21, D23, G23⟩
  exact ok_law F24 n_len n_range n_min n_max n_repr n_sorted n_set n_int PD MD
end Cry
open PySem PySem.W PyProof.Rows
set_option maxRecDepth 100000 in
set_option maxHeartbeats 0 in
theorem PySem.Challenge.cw_elsetold_k37_ways_put_and_taken_holds : PySem.Challenge.rw_elsetold_k37_ways_put_and_taken.Holds := by
  w_on; o_law; k_head; (case hw => w_witness2)
  k_fill
  refine Cry.walkG (l := PySem.Challenge.rw_elsetold_k37_ways_put_and_taken) (n := 63) (k := 10) (x := "script") (sp := fun w => Cry.spLaw _) rfl (by decide) rfl ⟨rfl, by decide, by decide⟩ (fun w h Y => PySem.W.kIn_of Y) ?F (fun w H a ns hl _ hS => ⟨a, ns, rfl, hS, Nat.le_trans hl (by decide), fun _ => rfl⟩)
  case F =>
    intro w mg fa h KX G hmg
    refine' Cry.all_mk KX G hmg ?a1 ?l1 ?c1 ?k1 ?a2 ?l2 ?c2 ?k2 ?a3 ?l3 ?c3 ?k3 ?a4 ?l4 ?c4 ?k4 ?a5 ?l5 ?c5 ?k5 ?a6 ?l6 ?c6 ?k6 ?a7 ?l7 ?c7 ?k7 ?a8 ?l8 ?c8 ?k8 ?a9 ?l9 ?c9 ?k9 ?a10 ?l10 ?c10 ?k10 ?a11 ?l11 ?c11 ?k11 ?a12 ?l12 ?c12 ?k12 ?a13 ?l13 ?c13 ?k13 ?a14 ?l14 ?c14 ?k14 ?a15 ?l15 ?c15 ?k15 ?a16 ?l16 ?c16 ?k16 ?a17 ?l17 ?c17 ?k17 ?a18 ?l18 ?c18 ?k18 ?a19 ?l19 ?c19 ?k19 ?a20 ?l20 ?c20 ?k20 ?a21 ?l21 ?c21 ?k21 ?a22 ?l22 ?c22 ?k22 ?a23 ?l23 ?c23 ?k23 ?a24 ?l24 ?c24 ?k24 ?z_isinstance ?z_int ?z_bool ?z_str ?z_list ?z_tuple ?z_len ?z_all ?z_zip ?z_range ?z_sorted ?z_min ?z_max ?z_set ?z_repr ?v_LETTERS ?v_MOST_LETTERS ?v_MOST_FOLK ?v_MOST_WAYS ?v_MOST_BEATS
    (case a1 => k_is); (case l1 => k_is); (case c1 => k_is); (case k1 => k_is); (case a2 => k_is); (case l2 => k_is); (case c2 => k_is); (case k2 => k_is)
    (case a3 => k_is); (case l3 => k_is); (case c3 => k_is); (case k3 => k_is); (case a4 => k_is); (case l4 => k_is); (case c4 => k_is); (case k4 => k_is)
    (case a5 => k_is); (case l5 => k_is); (case c5 => k_is); (case k5 => k_is); (case a6 => k_is); (case l6 => k_is); (case c6 => k_is); (case k6 => k_is)
    (case a7 => k_is); (case l7 => k_is); (case c7 => k_is); (case k7 => k_is); (case a8 => k_is); (case l8 => k_is); (case c8 => k_is); (case k8 => k_is)
    (case a9 => k_is); (case l9 => k_is); (case c9 => k_is); (case k9 => k_is); (case a10 => k_is); (case l10 => k_is); (case c10 => k_is); (case k10 => k_is)
    (case a11 => k_is); (case l11 => k_is); (case c11 => k_is); (case k11 => k_is); (case a12 => k_is); (case l12 => k_is); (case c12 => k_is); (case k12 => k_is)
    (case a13 => k_is); (case l13 => k_is); (case c13 => k_is); (case k13 => k_is); (case a14 => k_is); (case l14 => k_is); (case c14 => k_is); (case k14 => k_is)
    (case a15 => k_is); (case l15 => k_is); (case c15 => k_is); (case k15 => k_is); (case a16 => k_is); (case l16 => k_is); (case c16 => k_is); (case k16 => k_is)
    (case a17 => k_is); (case l17 => k_is); (case c17 => k_is); (case k17 => k_is); (case a18 => k_is); (case l18 => k_is); (case c18 => k_is); (case k18 => k_is)
    (case a19 => k_is); (case l19 => k_is); (case c19 => k_is); (case k19 => k_is); (case a20 => k_is); (case l20 => k_is); (case c20 => k_is); (case k20 => k_is)
    (case a21 => k_is); (case l21 => k_is); (case c21 => k_is); (case k21 => k_is); (case a22 => k_is); (case l22 => k_is); (case c22 => k_is); (case k22 => k_is)
    (case a23 => k_is); (case l23 => k_is); (case c23 => k_is); (case k23 => k_is); (case a24 => k_is); (case l24 => k_is); (case c24 => k_is); (case k24 => k_is)
    (case z_isinstance => k_is); (case z_int => k_is); (case z_bool => k_is); (case z_str => k_is); (case z_list => k_is); (case z_tuple => k_is); (case z_len => k_is); (case z_all => k_is)
    (case z_zip => k_is); (case z_range => k_is); (case z_sorted => k_is); (case z_min => k_is); (case z_max => k_is); (case z_set => k_is); (case z_repr => k_is); (case v_LETTERS => k_is)
    (case v_MOST_LETTERS => k_is); (case v_MOST_FOLK => k_is); (case v_MOST_WAYS => k_is); (case v_MOST_BEATS => k_is)

/- 'FnZipJoin' answers true at every input, and its argument reads behind the call as it read before; what the library's listed tables hold is tied to the program's text (the card). -/
import Derived.Test.YtckocaibjciplaaGreatDoorRows
import Derived.Test.YtckocaibjciplaaGreatDoorCards
import Derived.Test.YtckocaibjciplaaGreatDoorTie
import Derived.Test.YtckocaibjciplaaGreatDoorM5
import Derived.Test.YtckocaibjciplaaGreatDoorM42
import Derived.Test.YtckocaibjciplaaGreatDoorM45
import Derived.Test.YtckocaibjciplaaGreatDoorM43
import Derived.Test.YtckocaibjciplaaGreatDoorM41
import Derived.Test.YtckocaibjciplaaGreatDoorM32
import Derived.Test.YtckocaibjciplaaGreatDoorM2
import Derived.Test.YtckocaibjciplaaGreatDoorZs8
import Derived.Test.YtckocaibjciplaaGreatDoorM34
import Derived.Test.YtckocaibjciplaaGreatDoorM37
import Derived.Test.YtckocaibjciplaaGreatDoorM1
import Derived.Test.YtckocaibjciplaaGreatDoorM3
import Derived.Test.YtckocaibjciplaaGreatDoorM4
import Derived.Test.YtckocaibjciplaaGreatDoorM6
import Derived.Test.YtckocaibjciplaaGreatDoorM7
import Derived.Test.YtckocaibjciplaaGreatDoorM8
import Derived.Test.YtckocaibjciplaaGreatDoorM9
import Derived.Test.YtckocaibjciplaaGreatDoorM10
import Derived.Test.YtckocaibjciplaaGreatDoorM11
import Derived.Test.YtckocaibjciplaaGreatDoorM12
import Derived.Test.YtckocaibjciplaaGreatDoorM13
import Derived.Test.YtckocaibjciplaaGreatDoorM14
import Derived.Test.YtckocaibjciplaaGreatDoorM15
import Derived.Test.YtckocaibjciplaaGreatDoorM16
import Derived.Test.YtckocaibjciplaaGreatDoorM17
import Derived.Test.YtckocaibjciplaaGreatDoorM18
import Derived.Test.YtckocaibjciplaaGreatDoorM19
import Derived.Test.YtckocaibjciplaaGreatDoorM20
import Derived.Test.YtckocaibjciplaaGreatDoorM21
import Derived.Test.YtckocaibjciplaaGreatDoorM22
import Derived.Test.YtckocaibjciplaaGreatDoorM23
import Derived.Test.YtckocaibjciplaaGreatDoorM24
import Derived.Test.YtckocaibjciplaaGreatDoorM25
import Derived.Test.YtckocaibjciplaaGreatDoorM26
import Derived.Test.YtckocaibjciplaaGreatDoorM27
import Derived.Test.YtckocaibjciplaaGreatDoorM28
import Derived.Test.YtckocaibjciplaaGreatDoorM29
import Derived.Test.YtckocaibjciplaaGreatDoorM30
import Derived.Test.YtckocaibjciplaaGreatDoorM31
import Derived.Test.YtckocaibjciplaaGreatDoorM33
import Derived.Test.YtckocaibjciplaaGreatDoorM35
import Derived.Test.YtckocaibjciplaaGreatDoorM36
import Derived.Test.YtckocaibjciplaaGreatDoorM38
import Derived.Test.YtckocaibjciplaaGreatDoorM39
import Derived.Test.YtckocaibjciplaaGreatDoorM40
import Derived.Test.YtckocaibjciplaaGreatDoorM44
import Derived.Lib.QuietBelow
import Derived.Deep.QuietTactic
import Derived.BigQuiet
import Derived.Deep.RegionLaw
import Derived.Lib.SliceRun
import Derived.BigQuiet
import Derived.Deep.RegionLaw
import Derived.Lib.SliceRun
import Derived.ShutString
import Derived.ChangeOld
import Derived.Below
set_option maxHeartbeats 6400000
namespace Go.Proofs.YtckocaibjciplaaGreatDoor
noncomputable def handW (os : Os) : World :=
  let w0 := World.holding Tryz.prog os ⟨#[], #[], []⟩
  { w0 with heap := w0.heap.modify 0 fun
      | .cells _ t frozen => .cells #[.iface 170 (.agg #[.pointer (some ⟨5, 54, none⟩)])] t frozen
      | o => o }
section
open Go.RowKit Corb
open Go.Lib hiding intOf
set_option maxRecDepth 100000
set_option linter.defProp false
set_option linter.unusedSimpArgs false
set_option linter.unusedVariables false
theorem zip_pw (l:List En):cB l=true↔(∀ e∈l,je e=true)∧l.Pairwise goes∧l.length≤6:=by
 rw [rU,List.pairwise_iff_getElem]
 have g:∀ i (hi:i<l.length),l.getD i default=l[i]:=fun i hi=>by simp [List.getD,hi]
 constructor
 ·
  intro h
  refine ⟨fun e he=>?_,fun i j hi hj hij=>?_,?_⟩
  ·
   obtain ⟨i,hi,rfl⟩:=List.getElem_of_mem he
   have:=((nw hi).1 (h i hi)).1
   rwa [g i hi] at this
  ·
   have:=((nw hj).1 (h j hj)).2.1 i hij
   rw [g i hi,g j hj] at this
   exact this
  ·
   rcases Nat.lt_or_ge 6 l.length with h6 | h6
   ·
    have:=((nw h6).1 (h 6 h6)).2.2; omega
   ·
    exact h6
 ·
  rintro ⟨h1,h2,h3⟩ i hi
  refine (nw hi).2 ⟨by rw [g i hi]; exact h1 _ (List.getElem_mem _),fun j hj=>?_,by omega⟩
  rw [g i hi,g j (by omega)]
  exact h2 j i (by omega) hi hj
theorem add_list:∀ {M l R:List En},dZ M l=(0,R)→R=l++M
 | [],l,R,h=>by
  unfold dZ at h
  rw [←(Prod.mk.inj h).2]; simp
 | e :: M,l,R,h=>by
  unfold dZ at h
  split at h
  ·
   rw [add_list h]; simp
  ·
   rename_i hc; exact absurd (Prod.mk.inj h).1 hc
theorem zip_takeK {l:List En} (h:cB l=true) (k:Nat):cB (l.take k)=true:=by
 obtain ⟨h1,h2,h3⟩:=(zip_pw l).1 h
 have hs:=List.take_sublist k l
 exact (zip_pw _).2 ⟨fun e he=>h1 e (hs.subset he),h2.sublist hs,Nat.le_trans hs.length_le h3⟩
theorem add_from {R:List En} (h:cB R=true):∀ n k,R.length-k=n→dZ (R.drop k) (R.take k)=(0,R)
 | 0,k,hn=>by
  rw [List.drop_of_length_le (by omega),List.take_of_length_le (by omega)]; rfl
 | n+1,k,hn=>by
  have hk:k<R.length:=by omega
  have hr:aT (R.take k) (R.getD k default)=0:=by
   have:=zip_takeK h (k+1)
   rw [pm R default k hk] at this
   exact (gG (zip_takeK h k) _).1 this
  rw [tN hk,if_pos hr,←pm R default k hk]
  exact add_from h n (k+1) (by omega)
theorem join_empty {R:List En} (h:cB R=true):pR (fe []) (fe R) = .tuple #[.string (fe R),.int .i64 0]∧pR (fe R) (fe []) = .tuple #[.string (fe R),.int .i64 0]:=by
 constructor
 ·
  rw [nO (DV h)]
  exact yM (DV Qi) (add_from h R.length 0 (by omega))
 ·
  rw [nO (DV Qi)]
  exact yM (DV h) rfl
set_option maxHeartbeats 1600000 in
theorem cbList_same (a b:Option Addr) (c d n:Nat) (l:List En) (w:World) (hn:l.length=n) (ha:kF w a l) (hb:kF w b l) (hl:n≤1000) :
  Calls Tryz.prog 13 #[.slice a n c,.slice b n d] w fun e w'=>e = .returned (.bool true)∧Below w.heap.size w w':=by
 have hmix:Tryz.prog.follows .mixedOrders=true:=by kernel_rfl
 have HA:=af ha
 have HB:=af hb
 have HN:=af hn
 have hlI:(n:Int)≤1000:=by omega
 clear ha hb hn hl
 go_enter Tryz.func13,Tryz.ntmps13
 go_wp2_with fail
 go_loopw [5] (fun i wr=>∃ k:Nat,k≤n∧i = .int .i64 k∧Below w.heap.size w wr) (fun i _=>n-(intOf i).toNat)
 case atStart=>exact ⟨0,Nat.zero_le _,rfl,Below.refl _ _⟩
 case round=>
  obtain ⟨k,hk,rfl,hbr⟩:=hrel
  by_cases hlt:k<n
  ·
   have hltI:(k:Int)<(n:Int):=by omega
   have HK:=af hlt
   obtain ⟨g,o,rfl,hg,hc⟩:=ae HA (by rw [ae HN]; omega)
   obtain ⟨g',o',rfl,hg',hc'⟩:=ae HB (by rw [ae HN]; omega)
   obtain ⟨c0,c1,c2,c3,c4,c5,c6,c7⟩:=hc k (by rw [ae HN]; exact hlt)
   obtain ⟨d0,d1,d2,d3,d4,d5,d6,d7⟩:=hc' k (by rw [ae HN]; exact hlt)
   have q:∀ (h j:Nat) (v:Value),h<w.heap.size→w.cell? ⟨h,j,none⟩=some v→wr.cell? ⟨h,j,none⟩=some v:=fun h j v hh e=>(hbr.cell (p:=⟨h,j,none⟩) hh).trans e
   replace c0:=q _ _ _ hg c0
   replace c1:=q _ _ _ hg c1
   replace c2:=q _ _ _ hg c2
   replace c3:=q _ _ _ hg c3
   replace c4:=q _ _ _ hg c4
   replace c5:=q _ _ _ hg c5
   replace c6:=q _ _ _ hg c6
   replace c7:=q _ _ _ hg c7
   replace d0:=q _ _ _ hg' d0
   replace d1:=q _ _ _ hg' d1
   replace d2:=q _ _ _ hg' d2
   replace d3:=q _ _ _ hg' d3
   replace d4:=q _ _ _ hg' d4
   replace d5:=q _ _ _ hg' d5
   replace d6:=q _ _ _ hg' d6
   replace d7:=q _ _ _ hg' d7
   have HBr:=af hbr
   clear hc hc' q hbr hk hlt hg hg'
   generalize l.getD k default=en at *
   go_wp2_with fail
   go_quiet (fail)
   go_wp2_with fail
   go_roundw
   case rel=>exact ⟨k+1,by have:=ae HK; omega,by go_num,below_drewN (ae HBr) _⟩
   case measure=>have:=ae HK; simp [intOf]; omega
  ·
   have hltI:¬ (k:Int)<(n:Int):=by omega
   go_wp2
   go_ret
   exact ⟨rfl,hbr⟩
theorem wpList_append_rows_g {P:Program} (w:World) {ops:Array Oper} {rest:List Oper} {o:Oper} {a:Act} {Q:Exit→Act→World→Prop} (hw:Region.wanted o (yielded ops a.tmps)=true) (s x:Operand) (t:TypeId)
  (ho:o.op = .call { callee:=.builtin .append,args:=#[s,x],argTypes:=#[t,t] })
  (base:Nat) (e:TypeId) (i:TypeInfo) (z:Value) (size bytes:Nat) (ht:P.underlying t=some (.slice e)) (hi:P.info? e=some i) (hz:i.zero=some z)
  (hsize:i.size=size) (hby:i.bytes=bytes) (hzs:z.cells.size=size) (hsz:0<size)
  (v:Value) (n:Nat) (xs:List Value) (hs:a.eval s=v) (hown:w.ownsRow base e size v n xs)
  (vx:Value) (base' m:Nat) (news:List Value) (hx:a.eval x=vx) (hsrc:w.ownsRow base' e size vx m news) (h1:∀ u∈news,u.oneCell'=true)
  (h63:n+m≤maxLen) (hbytes:(n+m)*bytes≤140737488355328) (hbase:base≤w.heap.size)
  (h:∀ v' w',w'.ownsRow base e size v' (n+m) (xs++news)→w.grownBy w' v.ownBlock→wpList P ops Q rest (a.put o.dst v') w'):wpList P ops Q (o :: rest) a w:=
 wpList_step fun K hK=>by
  rw [if_pos hw]
  have hl:=hsrc.1
  rcases hsrc.2 with ⟨e0,h0⟩ | ⟨g,cap,cur,e0,hr⟩
  ·
   subst h0
   have hnil:news=[]:=List.eq_nil_of_length_eq_zero (by rw [hl]; simp)
   subst hnil
   have hrun:=run_append_owned_none (P:=P) (w:=w) base t o.type e i size ht hi v n xs hown
   unfold Oper.wp
   simp [execOp,ho,resolve,invoke,builtin,hs,hx.trans e0,hrun,Result.andThen]
   refine hK _ _ (h v w ?_ (World.grownBy.same _ _))
   rw [List.append_nil,Nat.add_zero]
   exact hown
  ·
   subst e0
   exact wp_append_own w s x t ho base e i z size bytes ht hi hz hsize hby hzs hsz v n xs hs hown ⟨g,0,none⟩ m cap news hx hl (World.ownsRow.cells hsrc rfl) h1 h63 hbytes hbase fun v' w' h2 h3 _=>hK _ _ (h v' w' h2 h3)
theorem own_cat {w:World} {b n N:Nat} {v:Value} {l M R:List En} (hK:R.length=n+N) (hR:R=l++M) (h:w.ownsRow b 34 8 v (0+n+N) ([]++l.flatMap jw++M.flatMap jw)):fS w b v R:=by
 show World.ownsRow _ _ _ _ _ R.length _
 rw [hK,hR,List.flatMap_append]
 simpa using h
set_option maxHeartbeats 6400000 in
theorem fnZipJoin_walk (a:Option Addr) (len cap:Nat) (zs:List Int) (m:Int) (w:World) (w0:Kj .u8 w a len cap zs) (hm:w.cell? ⟨2,0,none⟩=some (.int .i64 m)) (hg:oC w) (hO:dQ w) :
  Calls Tryz.prog 4 #[.slice a len cap] w fun e w'=>e = .returned (.bool true)∧Below w.heap.size w w':=by
 obtain ⟨⟨z,hsrc⟩,hc,hlen⟩:=Re w0
 have HDr:=af (s9 a len cap z w hsrc hc hlen)
 have CW:=af (fun W (hb:Below w.heap.size w W)=>And.intro ((hb.cell (p:=⟨2,0,none⟩) (World.block_lt_of_cell? _ _ hm)).trans hm) (And.intro (hg.later hb) (hO.later hb)))
 unfold maxLen at hlen
 clear w0 hsrc hm hg hO
 by_cases hl:(len:Int)≤1048576
 ·
  go_enter Tryz.func4,Tryz.ntmps4
  go_wp2_with fail
  refine (ae HDr).mono ?_
  rintro e w1 ⟨⟨l,t,rfl,hzl,ht⟩,hb1⟩
  have HB1:=af hb1
  clear hb1 HDr hlen hc
  have HZl:=af hzl
  have HT:=af ht
  have hA:=pr l
  have CI:=af (fun W (hW:Below w.heap.size w W)=>tf (fe l) t m W (by omega) (by omega) (ae CW W hW).1 (ae CW W hW).2.1 (ae CW W hW).2.2)
  have CS:=af (fun W=>tq (fe l) t W (by omega) (by omega))
  have CG:=af (fun W (hW:Below w.heap.size w W)=>jP t m W (by omega) (ae CW W hW).1 (ae CW W hW).2.1 (ae CW W hW).2.2)
  have HBk:=af (DV hzl)
  clear hzl ht hA
  rcases hz:dD t with _ | M
  ·
   rw [nN hz] at CI CS
   clear hz CG HBk
   obtain ⟨A,hA⟩:∃ x,fe l=x:=⟨_,rfl⟩
   rw [hA] at CI CS
   rw [hA]
   clear hA
   go_wp2_with fail
   refine (ae CI _ (ae HB1)).mono ?_
   rintro e w3 ⟨rfl,hb3⟩
   have HB3:=af (aj (ae HB1) hb3)
   clear hb3 HB1
   go_wp2_with fail
   refine (ae CS _).mono ?_
   rintro e w4 ⟨rfl,hb4⟩
   have HB4:=af (aj (ae HB3) hb4)
   clear hb4 HB3
   go_wp2
   all_goals
    go_ret
    exact ⟨rfl,ae HB4⟩
  ·
   have HJ:Hid (pR (fe l) t=edR (fe l) (dZ M)):=nO hz
   rw [ae HJ] at CI CS
   rw [hz] at CG
   by_cases hk:(dZ M l).1=0
   ·
    have hM:=oc hz
    obtain ⟨R,hR⟩:∃ r,(dZ M l).2=r:=⟨_,rfl⟩
    have hd:dZ M l=(0,R):=Prod.ext hk hR
    have hRl:=add_list hd
    have hzR:cB R=true:=by have:=Qs (ae HZl) hk; rwa [hR] at this
    obtain ⟨j1,j2⟩:=join_empty hzR
    have hps:=pr R
    have hpn:=pr []
    have CGa:=af (fun W (hW:Below w.heap.size w W)=>jP (fe l) m W (by have:=pr l; omega) (ae CW W hW).1 (ae CW W hW).2.1 (ae CW W hW).2.2)
    have CGx:=af (fun W (hW:Below w.heap.size w W)=>jP (fe R) m W (by omega) (ae CW W hW).1 (ae CW W hW).2.1 (ae CW W hW).2.2)
    have CP:=af (fun W (hW:Below w.heap.size w W)=>uB none 0 [] 0 rfl m W (fun h=>absurd h (by decide)) (by decide) (by decide) (fun i hi=>absurd hi (by omega)) (ae CW W hW).1 (ae CW W hW).2.1 (ae CW W hW).2.2)
    have CL:=af (fun W (hW:Below w.heap.size w W)=>tf (fe []) (fe R) m W (by omega) (by omega) (ae CW W hW).1 (ae CW W hW).2.1 (ae CW W hW).2.2)
    have CR:=af (fun W (hW:Below w.heap.size w W)=>tf (fe R) (fe []) m W (by omega) (by omega) (ae CW W hW).1 (ae CW W hW).2.1 (ae CW W hW).2.2)
    rw [ae HBk] at CGa
    rw [DV hzR] at CGx
    rw [j1] at CL
    rw [j2] at CR
    rw [yM (ae HBk) hd] at CI CS
    obtain ⟨A,hA⟩:∃ x,fe l=x:=⟨_,rfl⟩
    obtain ⟨X,hX⟩:∃ x,fe R=x:=⟨_,rfl⟩
    obtain ⟨Z,hZ⟩:∃ x,fe []=x:=⟨_,rfl⟩
    rw [hA] at CI CS CGa
    rw [hX] at CI CS CGx CL CR
    rw [hZ] at CP CL CR
    rw [hA]
    obtain ⟨n,hn⟩:∃ n,l.length=n:=⟨_,rfl⟩
    obtain ⟨N,hN⟩:∃ n,M.length=n:=⟨_,rfl⟩
    have hK:R.length=n+N:=by rw [hRl,List.length_append,hn,hN]
    have HN:=af hn
    have HNm:=af hN
    have HK:=af hK
    have HRl:=af hRl
    have H6:Hid (n+N≤6):=by show _≤_; rw [←hK]; exact (ep hzR).2
    clear hz hk hM hR hd hRl hzR j1 j2 hps hpn hA hX hZ hn hN hK HJ HBk
    go_wp2_with fail
    refine (ae CI _ (ae HB1)).mono ?_
    rintro e w3 ⟨rfl,hb3⟩
    have HB3:=af (aj (ae HB1) hb3)
    clear hb3 HB1
    go_wp2_with fail
    refine (ae CS _).mono ?_
    rintro e w4 ⟨rfl,hb4⟩
    have HB4:=af (aj (ae HB3) hb4)
    clear hb4 HB3
    go_wp2_with fail
    refine (ae CGa _ (ae HB4)).mono ?_
    rintro e w5 ⟨⟨v5,rfl,ho5⟩,hb5⟩
    have HB5:=af (aj (ae HB4) hb5)
    have ho5:fS w5 w4.heap.size v5 l:=ho5
    obtain ⟨a5,c5,rfl,_,_⟩:=ho5.formN (ae HN)
    have O5:=af ho5
    clear ho5
    clear hb5 HB4
    go_wp2_with fail
    refine (ae CG _ (ae HB5)).mono ?_
    rintro e w6 ⟨⟨v6,rfl,ho6⟩,hb6⟩
    have HB6:=af (aj (ae HB5) hb6)
    have O6:=af ((ae O5).later hb6 (Nat.le_refl _))
    have ho6:fS w6 w5.heap.size v6 M:=ho6
    obtain ⟨a6,c6,rfl,_,_⟩:=ho6.formN (ae HNm)
    have P6:=af ho6
    clear ho6
    clear hb6 HB5  O5
    go_wp2_with fail
    refine (ae CGx _ (ae HB6)).mono ?_
    rintro e w7 ⟨⟨v7,rfl,ho7⟩,hb7⟩
    have HB7:=af (aj (ae HB6) hb7)
    have O7:=af ((ae O6).later hb7 (Nat.le_refl _))
    have P7:=af ((ae P6).later hb7 (Nat.le_refl _))
    have ho7:fS w7 w6.heap.size v7 R:=ho7
    obtain ⟨a7,c7,rfl,_,_⟩:=ho7.formN (ae HK)
    have Q7:=af ho7
    clear ho7
    clear hb7 HB6  O6 P6
    go_wp2_with fail
    refine (ae CP _ (ae HB7)).mono ?_
    rintro e w8 ⟨rfl,hb8⟩
    have HB8:=af (aj (ae HB7) hb8)
    have O8:=af ((ae O7).later hb8 (Nat.le_refl _))
    have P8:=af ((ae P7).later hb8 (Nat.le_refl _))
    have Q8:=af ((ae Q7).later hb8 (Nat.le_refl _))
    clear hb8 HB7  O7 P7 Q7
    go_wp2_with fail
    refine (ae CL _ (ae HB8)).mono ?_
    rintro e w9 ⟨rfl,hb9⟩
    have HB9:=af (aj (ae HB8) hb9)
    have O9:=af ((ae O8).later hb9 (Nat.le_refl _))
    have P9:=af ((ae P8).later hb9 (Nat.le_refl _))
    have Q9:=af ((ae Q8).later hb9 (Nat.le_refl _))
    clear hb9 HB8  O8 P8 Q8
    go_wp2_with fail
    refine (ae CR _ (ae HB9)).mono ?_
    rintro e w10 ⟨rfl,hb10⟩
    have HB10:=af (aj (ae HB9) hb10)
    have O10:=af ((ae O9).later hb10 (Nat.le_refl _))
    have P10:=af ((ae P9).later hb10 (Nat.le_refl _))
    have Q10:=af ((ae Q9).later hb10 (Nat.le_refl _))
    clear hb10 HB9  O9 P9 Q9
    obtain ⟨i0,hi,hz0,hz1,hz2⟩:=info_parts Tryz.infoEnt
    have HBd:Hid (∀ x,x≤40→x≤maxLen∧x*80≤140737488355328):=fun x hx=>by unfold maxLen; omega
    have HBa:=af ((Below.refl w10.heap.size w10).alloc (Nat.le_refl _) (.cells #[] 34))
    go_wp2_with (first
     | (at_builtin; refine wpList_append_rows_g _ (by first | rfl | simp [Region.wanted,yielded]) (.tmp 100) (.tmp 101) 27 rfl w10.heap.size 34 i0 (.agg #[.string ⟨#[]⟩,.int .i64 0,.int .i64 0,.int .i64 0,.int .i64 0,.int .i64 0,.int .i64 0,.string ⟨#[]⟩]) 8 80 Tryz.underlying27 hi hz0 hz1 hz2 rfl (by decide) (.slice (some ⟨w10.heap.size,0,none⟩) 0 0) 0 [] rfl (World.ownsRow_lit w10 #[] 0 (Nat.le_refl _) (by unfold maxLen; omega) rfl) (.slice a5 n c5) _ n (l.flatMap jw) rfl (cb.own (ae HN) ((ae O10).later (ae HBa) (Nat.le_refl _))) (qR _) (ae HBd _ (by have:=ae H6; omega)).1 (ae HBd _ (by have:=ae H6; omega)).2 (ae HBa).size ?_; intro v11 w11 hown1 hg1; have hb1:=(ae HBa).grown hg1 (ae HBa).size (fun j hj=>by cases hj; exact Nat.le_refl _))
     | (at_builtin; refine wpList_append_rows_g _ (by first | rfl | simp [Region.wanted,yielded]) (.tmp 102) (.tmp 103) 27 rfl w10.heap.size 34 i0 (.agg #[.string ⟨#[]⟩,.int .i64 0,.int .i64 0,.int .i64 0,.int .i64 0,.int .i64 0,.int .i64 0,.string ⟨#[]⟩]) 8 80 Tryz.underlying27 hi hz0 hz1 hz2 rfl (by decide) v11 (0+n) ([]++l.flatMap jw) rfl hown1 (.slice a6 N c6) _ N (M.flatMap jw) rfl (cb.own (ae HNm) ((ae P10).later hb1 (Nat.le_refl _))) (qR _) (ae HBd _ (by have:=ae H6; omega)).1 (ae HBd _ (by have:=ae H6; omega)).2 hb1.size ?_; intro v12 w12 hown2 hg2; have hb2:=hb1.grown hg2 hb1.size (fun j hj=>(World.ownsRow.lt hown1 j hj).1); have hR2:=own_cat (ae HK) (ae HRl) hown2; obtain ⟨a12,c12,rfl,_,_⟩:=hR2.formN (ae HK)))
    have HB12:=af (aj (ae HB10) hb2)
    have CB:=af (cbList_same a7 a12 c7 c12 (n+N) R w12 (ae HK) (gQ (ae HK) ((ae Q10).later hb2 (Nat.le_refl _))) (gQ (ae HK) hR2) (by have:=ae H6; omega))
    refine (ae CB).mono ?_
    rintro e w13 ⟨rfl,hb13⟩
    have HB13:=af (aj (ae HB12) hb13)
    clear hb13 hb1 hb2 hown1 hown2 hg1 hg2 hR2
    go_wp2
    go_ret
    exact ⟨rfl,ae HB13⟩
   ·
    have HE:Hid (edR (fe l) (dZ M) = .tuple #[.string (fe l),.int .i64 (dZ M l).1]):=Ge (r:=(dZ M l).2) (ae HBk) rfl hk
    obtain ⟨k,hkk⟩:∃ k,(dZ M l).1=k:=⟨_,rfl⟩
    rw [ae HE,hkk] at CI CS
    rw [hkk] at hk
    obtain ⟨A,hA⟩:∃ x,fe l=x:=⟨_,rfl⟩
    rw [hA] at CI CS
    rw [hA]
    clear hA hkk hz HE HJ HBk CG
    go_wp2_with fail
    refine (ae CI _ (ae HB1)).mono ?_
    rintro e w3 ⟨rfl,hb3⟩
    have HB3:=af (aj (ae HB1) hb3)
    clear hb3 HB1
    go_wp2_with fail
    refine (ae CS _).mono ?_
    rintro e w4 ⟨rfl,hb4⟩
    have HB4:=af (aj (ae HB3) hb4)
    clear hb4 HB3
    go_wp2
    all_goals
     go_ret
     exact ⟨rfl,ae HB4⟩
 ·
  go_enter Tryz.func4,Tryz.ntmps4
  go_wp2
  go_ret
  exact ⟨rfl,Below.refl _ _⟩
end
end Go.Proofs.YtckocaibjciplaaGreatDoor
namespace Go.Proofs.YtckocaibjciplaaGreatDoor
namespace fnZipJoinDone
open Go.ChangeShapes Go.WideShapes Go.ChangeAt Go.RowKit
open Go.ChangeMaps (open_string shut_string)
set_option linter.unusedVariables false

theorem own : ownKnob Tryz.prog.godebug = none := by kernel_rfl
theorem laidOut : laidOutB Tryz.prog = true := by kernel_rfl


set_option maxRecDepth 100000 in
theorem lifted (os : Os) (started : os.Started) (H : Type) (enc : TypeId × Value → H) :
    ReturnsInHanded {} Tryz.checked os 4 .any (fun w args => (Rows.fnZipJoinSpec.pre enc Tryz.prog Tryz.f4 Rows.fnZipJoinRow.domain false w args ∧ laidMetH Tryz.prog Rows.fnZipJoinRow.laid w) ∧ sizedMet enc Tryz.prog Tryz.f4 (OpenSpec.ofChange Rows.fnZipJoinSpec) false w args)
      (Rows.fnZipJoinSpec.post enc Tryz.prog Tryz.f4 false true false false) := by
  refine tj (C := Tryz.checked) own started (by kernel_rfl) Tryz.func4
    (ChangeSpec.witness_shaped (enc := enc) (C := Tryz.checked) (os := os) (X := fun w _ => laidMetH Tryz.prog Rows.fnZipJoinRow.laid w) false ((handW os).layVars Tryz.prog [("unicode/utf8.acceptRanges", Rows.laid_unicode_utf8_acceptRanges), ("loop.example/corbel/impl.lenOrder", Rows.laid_loop_example_corbel_impl_lenOrder), ("unicode/utf8.first", Rows.laid_unicode_utf8_first)]) #[.slice none 0 0] 8 (World.layVars_os _ _ _)
      (World.shaped_of_ZipB (by kernel_rfl) (by kernel_rfl)) (by kernel_rfl) (by kernel_rfl) (by kernel_rfl)
      (laidMetH_of_parts (show laidMet Tryz.prog [("unicode/utf8.acceptRanges", Rows.laid_unicode_utf8_acceptRanges), ("loop.example/corbel/impl.lenOrder", Rows.laid_loop_example_corbel_impl_lenOrder), ("unicode/utf8.first", Rows.laid_unicode_utf8_first)] _ from zd _ (by kernel_rfl) (by kernel_rfl)) (by kernel_rfl))) ?_
  intro W base args ds gs before hval0 hW hsh hL
  have hval : ∀ (j : Nat) t v, Tryz.f4.params[j]? = some t → args[j]? = some v → Value.okWide Tryz.prog W .any base t v := hval0
  have hW' := hW
  obtain ⟨p, q, hA0, hV, rfl, hfz, hnd⟩ := hW
  have hA : DataW.TrodAll enc Tryz.prog W 0 (fun _ => true) true Tryz.f4.params.toList args.toList ds p := hA0
  rw [Tryz.params4] at hA hval
  obtain ⟨v0, vs0, d0, ds0, p0, q0, hargs, rfl, rfl, h0, r0⟩ := trodAll_cons hA
  obtain ⟨rfl, rfl, rfl⟩ := trodAll_nil r0
  obtain rfl : args = #[v0] := by cases args; simp_all
  have hV' := hV
  obtain ⟨gv, tv, cv, fv, dv, pv, rfl, hgv, htv, hvv, hdv, rfl⟩ := trodVars_one hV
  obtain ⟨a0, len0, cap0, rfl⟩ := okWide_slice Tryz.underlying22 (hval 0 22 v0 rfl rfl)
  have k0 := h0
  have lt0 : ∀ x ∈ p0, x.block < W.heap.size := by obtain ⟨m, hm⟩ := k0; exact DataW.trod_lt m _ _ _ hm
  obtain ⟨z0, w0⟩ : ∃ zs, Kj .u8 W a0 len0 cap0 zs := by
    obtain ⟨fuel, hf⟩ := h0
    rcases open_ints Tryz.underlying22 Tryz.underlying5 (by kernel_rfl) hf with ⟨hcs, _⟩ | ⟨x, l, c, zs, hcs, _, hl, hm, hz, _, hcell, hwz⟩
    · simp [Value.cells] at hcs
      obtain ⟨rfl, rfl, rfl⟩ := hcs
      exact ⟨[], .inl ⟨rfl, rfl, rfl, rfl⟩⟩
    · simp [Value.cells] at hcs
      obtain ⟨rfl, rfl, rfl⟩ := hcs
      exact ⟨zs, .inr ⟨_, rfl, hl, hm, by simpa using hz, hcell, hwz⟩⟩
  obtain ⟨m, hm⟩ := BX W hsh
  clear hA0 hval0
  refine (fnZipJoin_walk a0 len0 cap0 z0 m W w0 hm (OM hL (List.mem_filter.2 ⟨by simp [Rows.fnZipJoinRow, Rows.laid_errors_errorType], rfl⟩)) (wC hL (by kernel_rfl) (List.mem_filter.2 ⟨(List.Mem.tail _ (List.Mem.tail _ (List.Mem.head _))), by kernel_rfl⟩))).mono fun e W' ⟨he, bel⟩ => ?_
  subst he
  exact ⟨_, rfl, _, _, _, [], _, _, hW', trodAll_mk1 (shut_bool Tryz.underlying4 _), (trodAll_cons_mk (Below.trod laidOut (by kernel_rfl) (of_decide_eq_true (by kernel_rfl)) k0 bel lt0) trodAll_mk0), bel.trodVars laidOut (by kernel_rfl) hV', bel.frame _, fun h => by cases h⟩

theorem kIn : (Rows.fnZipJoinRow.inPlace == Tryz.pinned.checked.prog.inPlace 4) = true := by kernel_rfl
theorem kUn : (Rows.fnZipJoinRow.unfollowed == Tryz.pinned.checked.prog.unfollowed 4) = true := by kernel_rfl
theorem kRe : (Rows.fnZipJoinRow.recurses == Tryz.pinned.checked.prog.recurses 4) = true := by kernel_rfl
theorem kNa : (Rows.fnZipJoinRow.named == Tryz.pinned.checked.prog.varsNamed 4) = true := by kernel_rfl
theorem closed : joinedFacts Tryz.pinned.checked.prog 4 Tryz.f4 Rows.fnZipJoinSpec Rows.fnZipJoinRow = true := by
  unfold joinedFacts
  rw [kIn, kUn, kRe, kNa]
  kernel_rfl
theorem over : Rows.fnZipJoinRow.holds Tryz.pinned (OpenSpec.ofChange Rows.fnZipJoinSpec) :=
  OpenClaim.holds_of_wide 4 Tryz.f4 rfl rfl rfl rfl rfl rfl rfl ⟨rfl, rfl, rfl, rfl, rfl⟩ rfl rfl rfl rfl rfl (by kernel_rfl) Tryz.func4 closed
    (of_decide_eq_true (by kernel_rfl)) (by unfold Func.isWrapper; first | (rw [if_pos (by decide +kernel)]; kernel_rfl) | (rw [if_neg (by decide +kernel)]; exact ⟨rfl, rfl⟩))
    (fun os started H enc _ => lifted os started H enc)

theorem card : Rows.FnZipJoinCardSaid :=
  Claim7.holds_tied_plain_at .later [] [.data, .handle, .data, .pinned] true (true, "cef34c8af0c13faf0f26d1feeff4566cbbcc409f4ea2f94d5c6a725b98be9dbc") true over (fun _ h => by cases h) (by kernel_rfl) (fun _ h => by cases h) fnZipJoin_row_tie rfl ⟨rfl, rfl⟩ (by kernel_rfl) rfl
    (fun f fn hf hfn => by
      obtain rfl : f = 4 := Option.some.inj ((show Tryz.prog.funcNamed "loop.example/corbel/laws.FnZipJoin" = some 4 by kernel_rfl).symm.trans hf) |>.symm
      obtain rfl : fn = Tryz.f4 := (Option.some.inj (Tryz.func4.symm.trans hfn)).symm
      exact ⟨by kernel_rfl, fun j t ht => by
        rw [Tryz.params4] at ht
        have hm : t ∈ [22] := by simpa using Array.mem_of_getElem? ht
        have hall : ([22].all fun u => !Tryz.prog.wantsStandIn u) = true := by kernel_rfl
        exact (show Tryz.prog.wantsStandIn t = false by simpa using List.all_eq_true.1 hall t hm)⟩)
    (by kernel_rfl)
end fnZipJoinDone
theorem fnZipJoin_holds : Rows.FnZipJoinCardSaid := fnZipJoinDone.card
end Go.Proofs.YtckocaibjciplaaGreatDoor

/- Of what the proof is made: 2 texts, one behind the other. -/
import Derived.Test.YtemjckkocljgnaaGreatDoorM40
import Derived.Lib.LaidTab
namespace Go.Proofs.YtemjckkocljgnaaGreatDoor
open Go.RowKit Corb
open Go.Lib (decDigits)
set_option maxRecDepth 100000
def PowT (w:World):Prop:=Lib.TabIs Tryz.prog w "internal/strconv.uint64pow10" .u64 Lib.pow10Tab
theorem PowT.later {w w':World} (h:PowT w) (hb:Below w.heap.size w w'):PowT w':=by
 have hg:Tryz.prog.globalNamed "internal/strconv.uint64pow10" = some 2:=by kernel_rfl
 unfold PowT Lib.TabIs at *
 rw [World.var?,hg,Option.bind_some] at h ⊢
 have hlt:2<w.heap.size:=by
  rcases Nat.lt_or_ge 2 w.heap.size with hc | hc
  ·
   exact hc
  ·
   rw [Array.getElem?_eq_none hc] at h
   cases h
 rw [hb.block _ hlt]; exact h
theorem itoa_any (n:Nat) (hn:n≤2000000) (w:World) (hT:PowT w) :
  Calls Tryz.prog 38 #[.int .i64 (n:Nat)] w fun e w'=>e = .returned (.string ⟨(decDigits n).toArray⟩)∧Below w.heap.size w w':=by
 have h:=Tryz.strconv_Itoa (n:Nat) (by omega) (by omega) w hT
 have e:Lib.itoa (n:Int)=decDigits n:=by unfold Lib.itoa; rw [if_neg (by omega),Int.toNat_natCast]
 rw [e] at h
 exact h.mono fun _ _ ⟨h1,k,os,h2⟩=>⟨h1,by rw [h2]; exact below_regrown w (w.drawn+k) os⟩
theorem told_size (x:ByteArray) (hx:x.size≤1048576):(toldT x).size≤1048600:=by
 have:=dec_size x.size (by omega)
 have e:(toldT x).size=(decDigits x.size).length+1+x.size:=by
  unfold toldT; rw [ByteArray.size_append,ByteArray.size_append]; rfl
 omega
set_option maxHeartbeats 3200000 in
theorem toldD_any (t l x:ByteArray) (w:World) (hx:x.size≤1048576) (hT:PowT w) :
  Calls Tryz.prog 26 #[.agg #[.string t,.string l,.string x]] w fun e w'=>e = .returned (.string (toldT x))∧Below w.heap.size w w':=by
 have hmix:Tryz.prog.follows .mixedOrders=true:=by kernel_rfl
 have hA:=hide ((Below.refl w.heap.size w).alloc (Nat.le_refl _) (.cells #[.string t,.string l,.string x] 37))
 have P:=hide (blk_alloc w #[.string t,.string l,.string x] 37)
 have C:=hide (fun W (hb:Below w.heap.size w W)=>itoa_any x.size (by omega) W (hT.later hb))
 have HE:Hid (toldT x=⟨(decDigits x.size).toArray⟩++⟨#[10]⟩++x):=rfl
 have hz:=dec_size x.size (by omega)
 have hxI:(x.size:Int)≤1048576:=by omega
 obtain ⟨D,hD⟩:∃ D,(⟨(decDigits x.size).toArray⟩:ByteArray)=D:=⟨_,rfl⟩
 have hDz:D.size≤7:=by rw [←hD]; exact hz
 have h1:¬ 9223372036854775807<D.size+1:=by omega
 have h2:¬ 9223372036854775807<D.size+1+x.size:=by omega
 rw [hD] at C HE
 clear hD hz hDz hx hT
 go_enter Tryz.func26,Tryz.ntmps26
 go_wp2_with fail
 obtain ⟨W1,hW1⟩:∃ y,w.alloc (.cells #[.string t,.string l,.string x] 37)=y:=⟨_,rfl⟩
 rw [hW1] at hA P
 rw [hW1]
 clear hW1
 have k2:=cell_regrown ((unhide P).cell 2 _ rfl)
 have q1:=fun d os=>Calls.regrown_of (w:=W1) (d:=d) (os:=os) (unhide C _ (bnext (unhide hA) (below_regrown W1 d os)))
 refine wp_region_quiet_below hmix (by kernel_rfl) ?_
 quiet_step (fail)
 quiet_step (fail)
 quiet_step (fail)
 quiet_step (exact q1 _ _)
 quiet_step (fail)
 quiet_step (fail)
 quiet_step (fail)
 quiet_step (fail)
 quiet_step (fail)
 refine wpQuiet_nil ?_
 intro zw hw'
 obtain ⟨⟨dq,osq⟩,hw2⟩:=hw'
 have HZ:=below_regrown W1 dq osq
 rw [←hw2] at HZ
 have T9:=hide (bnext (unhide hA) HZ)
 clear hw2 HZ q1 k2
 go_wp2
 go_ret
 exact ⟨by rw [unhide HE]; rfl,unhide T9⟩
set_option maxHeartbeats 6400000 in
theorem torn_any (t l x:ByteArray) (b:Int) (w:World) (ht:t.size≤1048576) (hx:x.size≤1048576) (hT:PowT w) :
  Calls Tryz.prog 17 #[.agg #[.string t,.string l,.string x],.int .i64 b] w fun e w'=>e = .returned (dskV t ((toldT x).extract 0 (clN b (toldT x).size)))∧Below w.heap.size w w':=by
 have hmix:Tryz.prog.follows .mixedOrders=true:=by kernel_rfl
 have T0:Hid (DkS w _ [.string t,.string l,.string x] _):=two_blk w #[.string t,.string l,.string x] #[.string ⟨#[]⟩,.string ⟨#[]⟩] 37 25
 have C1:=hide (fun W (hb:Below w.heap.size w W)=>toldD_any t l x W hx (hT.later hb))
 have C2:=hide (fun W=>sClone_any t W (by omega))
 have hz:=told_size x hx
 have hzI:((toldT x).size:Int)≤1048600:=by omega
 obtain ⟨N,hN⟩:∃ N,clN b (toldT x).size=N:=⟨_,rfl⟩
 rw [hN]
 generalize toldT x=Z at *
 unfold dskV
 clear ht hx hz hT
 go_enter Tryz.func17,Tryz.ntmps17
 go_wp2_with fail
 refine (unhide C1 _ (unhide T0).1).mono ?_
 rintro e x1 ⟨rfl,hb1⟩
 have T1:=hide ((unhide T0).later hb1)
 clear hb1 T0 C1
 have hN1:(N:Int)≤(Z.size:Int):=by rw [←hN]; unfold clN; split <;> (try split) <;> omega
 have hmm:min (max b 0) (Z.size:Int)=(N:Int):=by rw [←hN]; unfold clN; split <;> (try split) <;> omega
 have HN:=hide hN
 clear hN
 have t1:((N:Int)).toNat=N:=Int.toNat_natCast _
 go_wp2_with fail
 refine wp_region_held_drew (S:=fun W=>Blk W w.heap.size [.string t,.string l,.string x]) hmix (unhide T1).2.1.drew (fun hS=>?_)
 refine wpAnyH_take (i:=0) (v:=.pointer (some ⟨w.heap.size,0,none⟩)) rfl (by kernel_rfl) (by kernel_rfl) (by kernel_rfl) (fun _ _ _ h=>h) (Or.inl ⟨by rfl,fun W hSw=>by go_simp⟩) hS ?_
 refine wpAnyH_take (i:=1) (v:=.pointer (some ⟨w.heap.size,0,none⟩)) rfl (by kernel_rfl) (by kernel_rfl) (by kernel_rfl) (fun _ _ _ h=>h) (Or.inl ⟨by rfl,fun W hSw=>by go_simp⟩) hS ?_
 refine wpAnyH_take (i:=2) (v:=.string t) rfl (by kernel_rfl) (by kernel_rfl) (by kernel_rfl) (fun _ _ _ h=>h) (Or.inl ⟨by rfl,fun W hSw=>by have s0:=hSw.cell 0 _ rfl; go_simp⟩) hS ?_
 refine wpAnyH_take (i:=4) (v:=.string Z) rfl (by kernel_rfl) (by kernel_rfl) (by kernel_rfl) (fun _ _ _ h=>h) (Or.inl ⟨by rfl,fun W hSw=>by go_simp⟩) hS ?_
 refine wpAnyH_take (i:=5) (v:=.int .i64 (N:Nat)) rfl (by kernel_rfl) (by kernel_rfl) (by kernel_rfl) (fun _ _ _ h=>h) (Or.inl ⟨by rfl,fun W hSw=>by go_simp⟩) hS ?_
 refine wpAnyH_take (i:=6) (v:=.string (Z.extract 0 N)) rfl (by kernel_rfl) (by kernel_rfl) (by kernel_rfl) (fun _ _ _ h=>h) (Or.inl ⟨by rfl,fun W hSw=>by go_simp⟩) hS ?_
 have T2:=hide (unhide T1).drew
 generalize x1.drew=x2 at *
 refine wpAnyH_ready (rs:=[3]) (by kernel_rfl) (by simp) ?_
 refine AllReadyH.cons rfl (fun K hK=>?_) AllReadyH.nil
 go_simp
 go_at_call 22
 refine (unhide C2 _).mono ?_
 rintro e x3 ⟨rfl,hb3⟩
 have T3:=hide ((unhide T2).later hb3)
 refine Shut.out hK _ _ (unhide T3).2.1 (fun hS=>?_)
 clear hK K hb3 T2 T1
 refine wpAnyH_take (i:=7) (v:=.agg #[.string t,.string (Z.extract 0 N)]) rfl (by kernel_rfl) (by kernel_rfl) (by kernel_rfl) (fun _ _ _ h=>h) (Or.inl ⟨by rfl,fun W hSw=>by go_simp⟩) hS ?_
 refine wpAnyH_ready (rs:=[8]) (by kernel_rfl) (by simp) ?_
 refine AllReadyH.cons rfl (fun K hK=>?_) AllReadyH.nil
 have b0:=(unhide T3).2.2.cell 0 _ rfl
 have g0:=(unhide T3).2.2.free 0 (by decide)
 have b1:=(unhide T3).2.2.cell 1 _ rfl
 have g1:=(unhide T3).2.2.free 1 (by decide)
 have TZ:=hide ((unhide T3).put (a:=t) (b:=Z.extract 0 N))
 go_simp
 refine Shut.out hK _ _ (unhide TZ).2.1 (fun hS=>?_)
 clear hK K b0 g0 b1 g1
 refine wpAnyH_done (by kernel_rfl) ?_ _
 go_wp2
 have z0:=(unhide TZ).2.2.cell 0 _ rfl
 have z1:=(unhide TZ).2.2.cell 1 _ rfl
 exact bodyPost_ret (v:=.agg #[.string t,.string (Z.extract 0 N)]) (by simp [results,Tryz.results17,go_sem,z0,z1]) rfl ⟨rfl,(unhide TZ).1⟩
set_option maxHeartbeats 6400000 in
theorem implDiskTear_any (t l x:ByteArray) (b m:Int) (w:World) (ht:t.size≤1048576) (hx:x.size≤1048576) (hm:w.cell? ⟨1,0,none⟩=some (.int .i64 m)) (hg:ErrT w) (hO:OrdC w) (hT:PowT w) :
  Calls Tryz.prog 8 #[dskV t l,.string x,.int .i64 b] w fun e w'=>e = .returned (tearV t l x b)∧Below w.heap.size w w':=by
 have T0:Hid (DkS w _ [.string t,.string l] _):=two_blk w #[.string t,.string l] #[.string ⟨#[]⟩,.string ⟨#[]⟩] 25 25
 have hmb:=hide (World.block_lt_of_cell? _ _ hm)
 have CM:=hide (fun W (hb:Below w.heap.size w W)=>(hb.cell (p:=⟨1,0,none⟩) (unhide hmb)).trans hm)
 have C1:=hide (fun W (hb:Below w.heap.size w W)=>implDiskOk_any t l m W ht (unhide CM _ hb) (hg.later hb) (hO.later hb))
 have C2:=hide (fun W (hb:Below w.heap.size w W)=>archiveOk_any x m W hx (unhide CM _ hb) (hg.later hb) (hO.later hb))
 have C3:=hide (fun W (hb:Below w.heap.size w W)=>torn_any t l x b W ht hx (hT.later hb))
 have HV:Hid (tearV t l x b=if ((zipG t).isSome&&decide (l=⟨#[]⟩))=true∧(zipG x).isSome=true then dskV t ((toldT x).extract 0 (clN b (toldT x).size)) else dskV ⟨#[]⟩ ⟨#[]⟩):=rfl
 generalize ((zipG t).isSome&&decide (l=⟨#[]⟩))=B1 at *
 generalize (zipG x).isSome=B2 at *
 generalize (toldT x).extract 0 (clN b (toldT x).size)=Z at *
 unfold dskV at HV C3 ⊢
 clear ht hx hm hg hO hT CM hmb
 go_enter Tryz.func8,Tryz.ntmps8
 go_wp2_with fail
 refine (unhide C1 _ (unhide T0).1).mono ?_
 rintro e x1 ⟨rfl,hb1⟩
 have T1:=hide ((unhide T0).later hb1)
 clear hb1 T0 C1
 cases B1
 ·
  have HV2:Hid (tearV t l x b = .agg #[.string ⟨#[]⟩,.string ⟨#[]⟩]):=by show _=_; rw [unhide HV]; rfl
  have b0:=(unhide T1).2.2.cell 0 _ rfl
  have g0:=(unhide T1).2.2.free 0 (by decide)
  have b1:=(unhide T1).2.2.cell 1 _ rfl
  have g1:=(unhide T1).2.2.free 1 (by decide)
  have TZ:=hide ((unhide T1).put (a:=⟨#[]⟩) (b:=⟨#[]⟩))
  go_wp2
  have z0:=(unhide TZ).2.2.cell 0 _ rfl
  have z1:=(unhide TZ).2.2.cell 1 _ rfl
  exact bodyPost_ret (v:=.agg #[.string ⟨#[]⟩,.string ⟨#[]⟩]) (by simp [results,Tryz.results8,go_sem,z0,z1]) rfl ⟨by rw [unhide HV2],(unhide TZ).1⟩
 ·
  go_wp2_with fail
  refine (unhide C2 _ (unhide T1).1).mono ?_
  rintro e x2 ⟨rfl,hb2⟩
  have T2:=hide ((unhide T1).later hb2)
  clear hb2 T1 C2
  cases B2
  ·
   have HV2:Hid (tearV t l x b = .agg #[.string ⟨#[]⟩,.string ⟨#[]⟩]):=by show _=_; rw [unhide HV]; rfl
   have b0:=(unhide T2).2.2.cell 0 _ rfl
   have g0:=(unhide T2).2.2.free 0 (by decide)
   have b1:=(unhide T2).2.2.cell 1 _ rfl
   have g1:=(unhide T2).2.2.free 1 (by decide)
   have TZ:=hide ((unhide T2).put (a:=⟨#[]⟩) (b:=⟨#[]⟩))
   go_wp2
   have z0:=(unhide TZ).2.2.cell 0 _ rfl
   have z1:=(unhide TZ).2.2.cell 1 _ rfl
   exact bodyPost_ret (v:=.agg #[.string ⟨#[]⟩,.string ⟨#[]⟩]) (by simp [results,Tryz.results8,go_sem,z0,z1]) rfl ⟨by rw [unhide HV2],(unhide TZ).1⟩
  ·
   have HV2:Hid (tearV t l x b = .agg #[.string t,.string Z]):=by show _=_; rw [unhide HV]; rfl
   have p0:=(unhide T2).2.1.cell 0 _ rfl
   have p1:=(unhide T2).2.1.cell 1 _ rfl
   go_wp2_with fail
   refine (unhide C3 _ (unhide T2).1).mono ?_
   rintro e x3 ⟨rfl,hb3⟩
   have T3:=hide ((unhide T2).later hb3)
   clear hb3 T2 C3 p0 p1
   have b0:=(unhide T3).2.2.cell 0 _ rfl
   have g0:=(unhide T3).2.2.free 0 (by decide)
   have b1:=(unhide T3).2.2.cell 1 _ rfl
   have g1:=(unhide T3).2.2.free 1 (by decide)
   have TZ:=hide ((unhide T3).put (a:=t) (b:=Z))
   go_wp2
   have z0:=(unhide TZ).2.2.cell 0 _ rfl
   have z1:=(unhide TZ).2.2.cell 1 _ rfl
   exact bodyPost_ret (v:=.agg #[.string t,.string Z]) (by simp [results,Tryz.results8,go_sem,z0,z1]) rfl ⟨by rw [unhide HV2],(unhide TZ).1⟩
def nxO (l:ByteArray):ByteArray:=⟨(Lib.cut l.data.toList [10]).2.1.toArray⟩
theorem nxO_no {l:ByteArray} (h:Lib.indexByte l.data.toList 10 = -1):nxO l=⟨#[]⟩:=by
 unfold nxO Lib.cut
 rw [Lib.index_one,h,if_neg (by decide)]
theorem nxO_at {l:ByteArray} {i:Nat} (h:Lib.indexByte l.data.toList 10=(i:Int)):nxO l=nextT l i:=by
 unfold nxO Lib.cut
 rw [Lib.index_one,h,if_pos (by omega),Int.toNat_natCast]
 apply ba_of_list
 rw [next_list]; rfl
theorem rise_nx (l:ByteArray):riseO l=if (decide (l=toldT (nxO l))&&(zipG (nxO l)).isSome)=true then some (nxO l) else none:=by
 rcases nl_cases l.data.toList with h | ⟨i,h⟩
 ·
  rw [rise_no h,if_neg]
  rw [Bool.and_eq_true,decide_eq_true_eq]
  exact fun e=>told_no h e.1
 ·
  rw [rise_at h,nxO_at h]
  by_cases hc:l=toldT (nextT l i)∧(zipG (nextT l i)).isSome=true
  ·
   rw [if_pos hc,if_pos (by rw [Bool.and_eq_true,decide_eq_true_eq]; exact hc)]
  ·
   rw [if_neg hc,if_neg (by rw [Bool.and_eq_true,decide_eq_true_eq]; exact hc)]
theorem nxO_size (l:ByteArray):(nxO l).size≤l.size:=by
 rcases nl_cases l.data.toList with h | ⟨i,h⟩
 ·
  rw [nxO_no h]; exact Nat.zero_le _
 ·
  rw [nxO_at h,nextT,ByteArray.size_extract]; omega
set_option maxHeartbeats 3200000 in
theorem diskPlanOf_any (t l:ByteArray) (m:Int) (w:World) (hl:l.size≤1048576) (hm:w.cell? ⟨1,0,none⟩=some (.int .i64 m)) :
  Calls Tryz.prog 20 #[dskV t l] w fun e w'=>e = .returned (.agg #[.string t,.string l,.string (nxO l)])∧Below w.heap.size w w':=by
 have T0:Hid (DkS w _ [.string t,.string l] _):=two_blk w #[.string t,.string l] #[.string ⟨#[]⟩,.string ⟨#[]⟩,.string ⟨#[]⟩] 25 37
 have C:Hid (∀ W,Below w.heap.size w W→Calls Tryz.prog 27 #[.string l,.string ⟨#[10]⟩] W fun e w'=>(∃ a b,e = .returned (.tuple #[.string a,.string (nxO l),.bool b]))∧Below W.heap.size W w'):=fun W hb=>by
  have h:=Tryz.strings_Cut l (⟨#[10]⟩:ByteArray) m W (by omega) ((hb.cell (p:=⟨1,0,none⟩) (World.block_lt_of_cell? _ _ hm)).trans hm)
  refine h.mono ?_
  rintro e w' ⟨rfl,n,rfl⟩
  exact ⟨⟨_,_,rfl⟩,below_drewN (Below.refl _ _) n⟩
 generalize nxO l=X at *
 unfold dskV
 clear hl hm
 go_enter Tryz.func20,Tryz.ntmps20
 go_wp2_with fail
 refine (unhide C _ (unhide T0).1).mono ?_
 rintro e x1 ⟨⟨a,b,rfl⟩,hb1⟩
 have T1:=hide ((unhide T0).later hb1)
 clear hb1 T0 C
 have p0:=(unhide T1).2.1.cell 0 _ rfl
 have p1:=(unhide T1).2.1.cell 1 _ rfl
 have b0:=(unhide T1).2.2.cell 0 _ rfl
 have g0:=(unhide T1).2.2.free 0 (by decide)
 have b1:=(unhide T1).2.2.cell 1 _ rfl
 have g1:=(unhide T1).2.2.free 1 (by decide)
 have b2:=(unhide T1).2.2.cell 2 _ rfl
 have g2:=(unhide T1).2.2.free 2 (by decide)
 have TZ:=hide ((unhide T1).put3 (a:=t) (b:=l) (c:=X))
 go_wp2
 have z0:=(unhide TZ).2.2.cell 0 _ rfl
 have z1:=(unhide TZ).2.2.cell 1 _ rfl
 have z2:=(unhide TZ).2.2.cell 2 _ rfl
 exact bodyPost_ret (v:=.agg #[.string t,.string l,.string X]) (by simp [results,Tryz.results20,go_sem,z0,z1,z2]) rfl ⟨rfl,(unhide TZ).1⟩
set_option maxHeartbeats 6400000 in
theorem wholeD_any (t l x:ByteArray) (m:Int) (w:World) (hx:x.size≤1048576) (hm:w.cell? ⟨1,0,none⟩=some (.int .i64 m)) (hg:ErrT w) (hO:OrdC w) (hT:PowT w) :
  Calls Tryz.prog 21 #[.agg #[.string t,.string l,.string x]] w fun e w'=>e = .returned (.bool (decide (l=toldT x)&&(zipG x).isSome))∧Below w.heap.size w w':=by
 have hmix:Tryz.prog.follows .mixedOrders=true:=by kernel_rfl
 have hA:=hide ((Below.refl w.heap.size w).alloc (Nat.le_refl _) (.cells #[.string t,.string l,.string x] 37))
 have P:=hide (blk_alloc w #[.string t,.string l,.string x] 37)
 have C1:=hide (fun W (hb:Below w.heap.size w W)=>toldD_any t l x W hx (hT.later hb))
 have C2:=hide (fun W (hb:Below w.heap.size w W)=>archiveOk_any x m W hx ((hb.cell (p:=⟨1,0,none⟩) (World.block_lt_of_cell? _ _ hm)).trans hm) (hg.later hb) (hO.later hb))
 generalize (zipG x).isSome=B2 at *
 generalize toldT x=Z at *
 obtain ⟨D,hD⟩:∃ d,(l.toList == Z.toList)=d:=⟨_,rfl⟩
 have HDD:Hid (decide (l=Z)=D):=by
  show _=_
  rw [Bool.eq_iff_iff,decide_eq_true_eq]
  exact (ba_beq hD).symm
 clear hx hm hg hO hT
 go_enter Tryz.func21,Tryz.ntmps21
 go_wp2_with fail
 obtain ⟨W1,hW1⟩:∃ y,w.alloc (.cells #[.string t,.string l,.string x] 37)=y:=⟨_,rfl⟩
 rw [hW1] at hA P
 rw [hW1]
 clear hW1
 have k0:=cell_regrown ((unhide P).cell 0 _ rfl)
 have k1:=cell_regrown ((unhide P).cell 1 _ rfl)
 have k2:=cell_regrown ((unhide P).cell 2 _ rfl)
 have q1:=fun d os=>Calls.regrown_of (w:=W1) (d:=d) (os:=os) (unhide C1 _ (bnext (unhide hA) (below_regrown W1 d os)))
 have q2:=fun d os=>Calls.regrown_of (w:=W1) (d:=d) (os:=os) (unhide C2 _ (bnext (unhide hA) (below_regrown W1 d os)))
 refine wp_region_quiet_below hmix (by kernel_rfl) ?_
 cases D
 all_goals
  go_big_quiet_step (fail)
  go_big_quiet_step (fail)
  go_big_quiet_step (fail)
  go_big_quiet_step (fail)
  go_big_quiet_step (exact q1 _ _)
  go_big_quiet_step (fail)
  go_big_quiet_step (fail)
  go_big_quiet_step (fail)
  go_big_quiet_step (fail)
  go_big_quiet_step (exact q2 _ _)
  go_big_quiet_step (fail)
  go_big_quiet_step (fail)
  refine wpQuiet_nil ?_
  intro zw hw'
  obtain ⟨⟨dq,osq⟩,hw2⟩:=hw'
  have HZ:=below_regrown W1 dq osq
  rw [←hw2] at HZ
  have T9:=hide (bnext (unhide hA) HZ)
  clear hw2 HZ q1 q2 k0 k1 k2
  go_wp2
  go_ret
  exact ⟨by rw [unhide HDD]; rfl,unhide T9⟩
set_option maxHeartbeats 6400000 in
theorem implDiskRise_any (t l:ByteArray) (m:Int) (w:World) (ht:t.size≤1048576) (hl:l.size≤1048576) (hm:w.cell? ⟨1,0,none⟩=some (.int .i64 m)) (hg:ErrT w) (hO:OrdC w) (hT:PowT w) :
  Calls Tryz.prog 11 #[dskV t l] w fun e w'=>e = .returned (riseV t l)∧Below w.heap.size w w':=by
 have T0:Hid (DkS w _ [.string t,.string l] _):=two_blk w #[.string t,.string l] #[.string ⟨#[]⟩,.string ⟨#[]⟩] 25 25
 have hmb:=hide (World.block_lt_of_cell? _ _ hm)
 have CM:=hide (fun W (hb:Below w.heap.size w W)=>(hb.cell (p:=⟨1,0,none⟩) (unhide hmb)).trans hm)
 have hxs:=Nat.le_trans (nxO_size l) hl
 have C1:=hide (fun W (hb:Below w.heap.size w W)=>diskPlanOf_any t l m W hl (unhide CM _ hb))
 have C2:=hide (fun W (hb:Below w.heap.size w W)=>wholeD_any t l (nxO l) m W hxs (unhide CM _ hb) (hg.later hb) (hO.later hb) (hT.later hb))
 have C3:=hide (fun W=>sClone_any (nxO l) W (by omega))
 have C4:=hide (fun W (hb:Below w.heap.size w W)=>archiveOk_any t m W ht (unhide CM _ hb) (hg.later hb) (hO.later hb))
 have C5:=hide (fun W=>sClone_any t W (by omega))
 have HS:Hid (∀ x,riseO l=some x→riseV t l = .tuple #[dskV x ⟨#[]⟩,.bool true]):=fun x h=>by unfold riseV; rw [h]
 have HW:Hid (riseO l=none→riseV t l=if (zipG t).isSome=true then .tuple #[dskV t ⟨#[]⟩,.bool true] else .tuple #[dskV ⟨#[]⟩ ⟨#[]⟩,.bool false]):=fun h=>by unfold riseV; rw [h]
 have HR:=hide (rise_nx l)
 generalize (decide (l=toldT (nxO l))&&(zipG (nxO l)).isSome)=BW at *
 generalize (zipG t).isSome=B4 at *
 generalize nxO l=X at *
 unfold dskV at HS HW C1 ⊢
 clear ht hl hm hg hO hT CM hmb hxs
 go_enter Tryz.func11,Tryz.ntmps11
 go_wp2_with fail
 refine (unhide C1 _ (unhide T0).1).mono ?_
 rintro e x1 ⟨rfl,hb1⟩
 have T1:=hide ((unhide T0).later hb1)
 have hA:=(Below.refl x1.heap.size x1).alloc (Nat.le_refl _) (.cells #[.string t,.string l,.string X] 37)
 have T2:=hide ((unhide T1).later hA)
 have Q2:=hide (blk_alloc x1 #[.string t,.string l,.string X] 37)
 clear hb1 T0 C1 hA T1
 go_wp2_with fail
 refine (unhide C2 _ (unhide T2).1).mono ?_
 rintro e x3 ⟨rfl,hb3⟩
 have T3:=hide ((unhide T2).later hb3)
 have Q3:=hide ((unhide Q2).later hb3 (unhide Q2).1)
 obtain ⟨QB,hQB⟩:∃ b,x1.heap.size=b:=⟨_,rfl⟩
 rw [hQB] at Q3
 rw [hQB]
 clear hb3 T2 Q2 hQB C2
 have q0:=(unhide Q3).cell 0 _ rfl
 have q2:=(unhide Q3).cell 2 _ rfl
 cases BW
 ·
  have HW1:=hide (unhide HW (unhide HR))
  clear HS HW HR
  go_wp2_with fail
  refine (unhide C4 _ (unhide T3).1).mono ?_
  rintro e x4 ⟨rfl,hb4⟩
  have T4:=hide ((unhide T3).later hb4)
  have Q4:=hide ((unhide Q3).later hb4 (unhide Q3).1)
  clear hb4 T3 Q3 q0 q2 C4
  cases B4
  ·
   have b0:=(unhide T4).2.2.cell 0 _ rfl
   have g0:=(unhide T4).2.2.free 0 (by decide)
   have b1:=(unhide T4).2.2.cell 1 _ rfl
   have g1:=(unhide T4).2.2.free 1 (by decide)
   have TZ:=hide ((unhide T4).put (a:=⟨#[]⟩) (b:=⟨#[]⟩))
   go_wp2
   have z0:=(unhide TZ).2.2.cell 0 _ rfl
   have z1:=(unhide TZ).2.2.cell 1 _ rfl
   exact bodyPost_ret (v:=.tuple #[.agg #[.string ⟨#[]⟩,.string ⟨#[]⟩],.bool false]) (by simp [results,Tryz.results11,go_sem,z0,z1]) rfl ⟨by rw [unhide HW1]; rfl,(unhide TZ).1⟩
  ·
   have q0:=(unhide Q4).cell 0 _ rfl
   go_wp2_with fail
   refine (unhide C5 _).mono ?_
   rintro e x5 ⟨rfl,hb5⟩
   have T5:=hide ((unhide T4).later hb5)
   clear hb5 T4 Q4 q0 C5
   have b0:=(unhide T5).2.2.cell 0 _ rfl
   have g0:=(unhide T5).2.2.free 0 (by decide)
   have b1:=(unhide T5).2.2.cell 1 _ rfl
   have g1:=(unhide T5).2.2.free 1 (by decide)
   have TZ:=hide ((unhide T5).put (a:=t) (b:=⟨#[]⟩))
   go_wp2
   have z0:=(unhide TZ).2.2.cell 0 _ rfl
   have z1:=(unhide TZ).2.2.cell 1 _ rfl
   exact bodyPost_ret (v:=.tuple #[.agg #[.string t,.string ⟨#[]⟩],.bool true]) (by simp [results,Tryz.results11,go_sem,z0,z1]) rfl ⟨by rw [unhide HW1]; rfl,(unhide TZ).1⟩
 ·
  have HW1:=hide (unhide HS X (unhide HR))
  clear HS HW HR
  go_wp2_with fail
  refine (unhide C3 _).mono ?_
  rintro e x4 ⟨rfl,hb4⟩
  have T4:=hide ((unhide T3).later hb4)
  clear hb4 T3 Q3 q0 q2 C3
  have b0:=(unhide T4).2.2.cell 0 _ rfl
  have g0:=(unhide T4).2.2.free 0 (by decide)
  have b1:=(unhide T4).2.2.cell 1 _ rfl
  have g1:=(unhide T4).2.2.free 1 (by decide)
  have TZ:=hide ((unhide T4).put (a:=X) (b:=⟨#[]⟩))
  go_wp2
  have z0:=(unhide TZ).2.2.cell 0 _ rfl
  have z1:=(unhide TZ).2.2.cell 1 _ rfl
  exact bodyPost_ret (v:=.tuple #[.agg #[.string X,.string ⟨#[]⟩],.bool true]) (by simp [results,Tryz.results11,go_sem,z0,z1]) rfl ⟨by rw [unhide HW1],(unhide TZ).1⟩
end Go.Proofs.YtemjckkocljgnaaGreatDoor
namespace Go.Proofs.YtemjckkocljgnaaGreatDoor
open Go.RowKit Corb
set_option maxRecDepth 100000
theorem eqDk_same (s t:ByteArray) (w:World) :
  Calls Tryz.prog 9 #[.agg #[.string s,.string t],.agg #[.string s,.string t]] w fun e w'=>e = .returned (.bool true)∧Below w.heap.size w w':=by
 go_enter Tryz.func9,Tryz.ntmps9
 go_wp2
 go_ret
 exact ⟨rfl,((Below.refl _ _).alloc (Nat.le_refl _) _).alloc (by simp) _⟩
theorem tear_two (t l x:ByteArray) (b:Int):∃ A B,tearV t l x b = .agg #[.string A,.string B]:=by
 unfold tearV dskV; split <;> exact ⟨_,_,rfl⟩
theorem rise_two (t l:ByteArray):∃ A B c,riseV t l = .tuple #[.agg #[.string A,.string B],.bool c]:=by
 unfold riseV dskV
 cases riseO l with
 | some x=>exact ⟨_,_,_,rfl⟩
 | none=>
  simp only
  split <;> exact ⟨_,_,_,rfl⟩
set_option maxHeartbeats 6400000 in
theorem exDiskTear_walk (t l x:ByteArray) (b m:Int) (w:World) (hn:t.size≤maxLen) (ht:l.size≤maxLen) (hm:w.cell? ⟨1,0,none⟩=some (.int .i64 m)) (hg:ErrT w) (hO:OrdC w) (hT:PowT w) :
  Calls Tryz.prog 3 #[.agg #[.string t,.string l],.string x,.int .i64 b] w fun e w'=>e = .returned (.bool true)∧Below w.heap.size w w':=by
 unfold maxLen at hn ht
 have hnI:(t.size:Int)≤9223372036854775807:=by omega
 have htI:(l.size:Int)≤9223372036854775807:=by omega
 have HM:=hide hm
 have hmb:=hide (World.block_lt_of_cell? _ _ hm)
 have CM:=hide (fun W (hb:Below w.heap.size w W)=>(hb.cell (p:=⟨1,0,none⟩) (unhide hmb)).trans (unhide HM))
 have HG:=hide (fun W (hb:Below w.heap.size w W)=>hg.later hb)
 have HO:=hide (fun W (hb:Below w.heap.size w W)=>hO.later hb)
 have HT:=hide (fun W (hb:Below w.heap.size w W)=>hT.later hb)
 have hA:=hide ((Below.refl w.heap.size w).alloc (Nat.le_refl _) (.cells #[.string t,.string l] 23))
 have P:=hide (blk_alloc w #[.string t,.string l] 23)
 clear hm hg hO hn ht hT
 by_cases hx:(1048576:Int)<(x.size:Int)
 ·
  go_enter Tryz.func3,Tryz.ntmps3
  go_wp2
  go_ret
  exact ⟨rfl,unhide hA⟩
 ·
  have HX:Hid (x.size≤1048576):=by show _≤_; omega
  go_enter Tryz.func3,Tryz.ntmps3
  go_wp2_with fail
  refine (szDisk_any t l _ hnI htI).mono ?_
  rintro e x1 ⟨⟨k,rfl,_,_,hk⟩,hb1⟩
  have HB1:=hide (bnext (unhide hA) hb1)
  have P1:=hide ((unhide P).later hb1 (unhide P).1)
  have HK:=hide hk
  clear hb1 hA P hk
  by_cases k0:k<0
  ·
   go_wp2
   go_ret
   exact ⟨rfl,unhide HB1⟩
  ·
   have HSZ:Hid (t.size≤1048576):=by show _≤_; have:=unhide HK (by omega); omega
   have p0:=(unhide P1).cell 0 _ rfl
   have p1:=(unhide P1).cell 1 _ rfl
   go_wp2_with fail
   refine (toDisk_any t l _).mono ?_
   rintro e x2 ⟨rfl,hb2⟩
   have HB2:=hide (bnext (unhide HB1) hb2)
   have P2:=hide ((unhide P1).later hb2 (unhide P1).1)
   clear hb2 p0 p1 P1 HB1
   have CS:Hid (∀ W,Calls Tryz.prog 6 #[.agg #[.string t,.string l],.string x,.int .i64 b] W fun e w'=>e = .returned (tearV t l x b)∧Below W.heap.size W w'):=fun W=>specDiskTear_any t l x b W (unhide HSZ) (unhide HX)
   have CI:Hid (∀ W,Below w.heap.size w W→Calls Tryz.prog 8 #[.agg #[.string t,.string l],.string x,.int .i64 b] W fun e w'=>e = .returned (tearV t l x b)∧Below W.heap.size W w'):=fun W hb=>implDiskTear_any t l x b m W (unhide HSZ) (unhide HX) (unhide CM _ hb) (unhide HG _ hb) (unhide HO _ hb) (unhide HT _ hb)
   obtain ⟨A,B,hAB⟩:=tear_two t l x b
   rw [hAB] at CS CI
   clear hAB
   go_wp2_with fail
   refine (unhide CS _).mono ?_
   rintro e x3 ⟨rfl,hb3⟩
   have hA3:=(Below.refl x3.heap.size x3).alloc (Nat.le_refl _) (.cells #[.string A,.string B] 25)
   have hb33:=bnext hb3 hA3
   have HB3:=hide (bnext (unhide HB2) hb33)
   have P3:=hide ((unhide P2).later hb33 (unhide P2).1)
   have Q3:=hide (blk_alloc x3 #[.string A,.string B] 25)
   clear hb3 hb33 hA3 P2 HB2 CS
   have p0:=(unhide P3).cell 0 _ rfl
   have p1:=(unhide P3).cell 1 _ rfl
   go_wp2_with fail
   refine (toDisk_any t l _).mono ?_
   rintro e x4 ⟨rfl,hb4⟩
   have HB4:=hide (bnext (unhide HB3) hb4)
   have Q4:=hide ((unhide Q3).later hb4 (unhide Q3).1)
   obtain ⟨QB,hQB⟩:∃ b,x3.heap.size=b:=⟨_,rfl⟩
   rw [hQB] at Q4
   rw [hQB]
   clear hb4 P3 HB3 p0 p1 Q3 hQB
   go_wp2_with fail
   refine (unhide CI _ (unhide HB4)).mono ?_
   rintro e x5 ⟨rfl,hb5⟩
   have hA5:=(Below.refl x5.heap.size x5).alloc (Nat.le_refl _) (.cells #[.string A,.string B] 25)
   have hb55:=bnext hb5 hA5
   have HB5:=hide (bnext (unhide HB4) hb55)
   have Q5:=hide ((unhide Q4).later hb55 (unhide Q4).1)
   clear hb5 hb55 hA5 Q4 HB4 CI
   have q0:=(unhide Q5).cell 0 _ rfl
   have q1:=(unhide Q5).cell 1 _ rfl
   go_wp2_with fail
   refine (eqDk_same A B _).mono ?_
   rintro e x6 ⟨rfl,hb6⟩
   have HB6:=hide (bnext (unhide HB5) hb6)
   clear hb6 HB5 Q5 q0 q1
   go_wp2
   go_ret
   exact ⟨rfl,unhide HB6⟩
set_option maxHeartbeats 6400000 in
theorem exDiskRise_walk (t l:ByteArray) (m:Int) (w:World) (hn:t.size≤maxLen) (ht:l.size≤maxLen) (hm:w.cell? ⟨1,0,none⟩=some (.int .i64 m)) (hg:ErrT w) (hO:OrdC w) (hT:PowT w) :
  Calls Tryz.prog 4 #[.agg #[.string t,.string l]] w fun e w'=>e = .returned (.bool true)∧Below w.heap.size w w':=by
 unfold maxLen at hn ht
 have hnI:(t.size:Int)≤9223372036854775807:=by omega
 have htI:(l.size:Int)≤9223372036854775807:=by omega
 have HM:=hide hm
 have hmb:=hide (World.block_lt_of_cell? _ _ hm)
 have CM:=hide (fun W (hb:Below w.heap.size w W)=>(hb.cell (p:=⟨1,0,none⟩) (unhide hmb)).trans (unhide HM))
 have HG:=hide (fun W (hb:Below w.heap.size w W)=>hg.later hb)
 have HO:=hide (fun W (hb:Below w.heap.size w W)=>hO.later hb)
 have HT:=hide (fun W (hb:Below w.heap.size w W)=>hT.later hb)
 have hA:=hide ((Below.refl w.heap.size w).alloc (Nat.le_refl _) (.cells #[.string t,.string l] 23))
 have P:=hide (blk_alloc w #[.string t,.string l] 23)
 clear hm hg hO hn ht hT
 go_enter Tryz.func4,Tryz.ntmps4
 go_wp2_with fail
 refine (szDisk_any t l _ hnI htI).mono ?_
 rintro e x1 ⟨⟨k,rfl,_,_,hk⟩,hb1⟩
 have HB1:=hide (bnext (unhide hA) hb1)
 have P1:=hide ((unhide P).later hb1 (unhide P).1)
 have HK:=hide hk
 clear hb1 hA P hk
 by_cases k0:k<0
 ·
  go_wp2
  go_ret
  exact ⟨rfl,unhide HB1⟩
 ·
  have HSZ:Hid (t.size≤1048576∧l.size≤1048576):=by show _∧_; have:=unhide HK (by omega); omega
  have p0:=(unhide P1).cell 0 _ rfl
  have p1:=(unhide P1).cell 1 _ rfl
  go_wp2_with fail
  refine (toDisk_any t l _).mono ?_
  rintro e x2 ⟨rfl,hb2⟩
  have HB2:=hide (bnext (unhide HB1) hb2)
  have P2:=hide ((unhide P1).later hb2 (unhide P1).1)
  clear hb2 p0 p1 P1 HB1
  have CS:Hid (∀ W,Calls Tryz.prog 10 #[.agg #[.string t,.string l]] W fun e w'=>e = .returned (riseV t l)∧Below W.heap.size W w'):=fun W=>specDiskRise_any t l W (unhide HSZ).1 (unhide HSZ).2
  have CI:Hid (∀ W,Below w.heap.size w W→Calls Tryz.prog 11 #[.agg #[.string t,.string l]] W fun e w'=>e = .returned (riseV t l)∧Below W.heap.size W w'):=fun W hb=>implDiskRise_any t l m W (unhide HSZ).1 (unhide HSZ).2 (unhide CM _ hb) (unhide HG _ hb) (unhide HO _ hb) (unhide HT _ hb)
  obtain ⟨A,B,c,hAB⟩:=rise_two t l
  rw [hAB] at CS CI
  clear hAB
  go_wp2_with fail
  refine (unhide CS _).mono ?_
  rintro e x3 ⟨rfl,hb3⟩
  have hA3:=(Below.refl x3.heap.size x3).alloc (Nat.le_refl _) (.cells #[.string A,.string B] 25)
  have hb33:=bnext hb3 hA3
  have HB3:=hide (bnext (unhide HB2) hb33)
  have P3:=hide ((unhide P2).later hb33 (unhide P2).1)
  have Q3:=hide (blk_alloc x3 #[.string A,.string B] 25)
  clear hb3 hb33 hA3 P2 HB2 CS
  have p0:=(unhide P3).cell 0 _ rfl
  have p1:=(unhide P3).cell 1 _ rfl
  go_wp2_with fail
  refine (toDisk_any t l _).mono ?_
  rintro e x4 ⟨rfl,hb4⟩
  have HB4:=hide (bnext (unhide HB3) hb4)
  have Q4:=hide ((unhide Q3).later hb4 (unhide Q3).1)
  obtain ⟨QB,hQB⟩:∃ b,x3.heap.size=b:=⟨_,rfl⟩
  rw [hQB] at Q4
  rw [hQB]
  clear hb4 P3 HB3 p0 p1 Q3 hQB
  go_wp2_with fail
  refine (unhide CI _ (unhide HB4)).mono ?_
  rintro e x5 ⟨rfl,hb5⟩
  have hA5:=(Below.refl x5.heap.size x5).alloc (Nat.le_refl _) (.cells #[.string A,.string B] 25)
  have hb55:=bnext hb5 hA5
  have HB5:=hide (bnext (unhide HB4) hb55)
  have Q5:=hide ((unhide Q4).later hb55 (unhide Q4).1)
  clear hb5 hb55 hA5 Q4 HB4 CI
  have q0:=(unhide Q5).cell 0 _ rfl
  have q1:=(unhide Q5).cell 1 _ rfl
  go_wp2_with fail
  refine (eqDk_same A B _).mono ?_
  rintro e x6 ⟨rfl,hb6⟩
  have HB6:=hide (bnext (unhide HB5) hb6)
  clear hb6 HB5 Q5 q0 q1
  cases c
  all_goals
   go_wp2
   go_ret
   exact ⟨rfl,unhide HB6⟩
end Go.Proofs.YtemjckkocljgnaaGreatDoor

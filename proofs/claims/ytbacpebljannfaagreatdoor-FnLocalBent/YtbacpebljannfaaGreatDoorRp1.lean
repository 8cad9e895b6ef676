/- slices.Repeat of a row of one. -/
import Derived.Test.YtbacpebljannfaaGreatDoorM7
import Derived.Test.YtbacpebljannfaaGreatDoorM4
import Derived.Laws.Bits64b
import Derived.Laws.CopyOwn
import Derived.Deep.RegionLaw
set_option linter.unusedSimpArgs false
set_option maxHeartbeats 1600000
namespace Go.Proofs.YtbacpebljannfaaGreatDoor
open Go.RowKit
theorem Cz(c:Nat)(hc:(c:Int)<=1000):bits .and .u64 (c:Int) 4294967295=(c:Int):=by
 have h:=Go.bits_and_u64_nat c 4294967295 (by omega) (by decide);have e:c &&& 4294967295=c:=by
  have:=Nat.and_two_pow_sub_one_eq_mod c 32;rw[show(2 ^ 32-1:Nat)=4294967295 by decide]at this;rw[this];omega
 rw[e]at h;exact h
theorem wrap_small(c:Nat)(hc:(c:Int)<=1000):IntKind.u64.wrap (c:Int)=(c:Int):=by
 simp only[IntKind.wrap,IntKind.signed,IntKind.bits];simp;omega
theorem BE(c:Nat)(w:World)(hc:(c:Int)<=1000) :
  Calls Tryz.prog 119 #[.int .u64 1,.int .u64 (c:Nat)] w fun e w'=>e = .returned (.tuple #[.int .u64 0,.int .u64 (c:Nat)])/\w'=w:=by
 have e1:bits .and .u64 1 4294967295=1:=by decide +kernel
 have e0:bits .and .u64 0 4294967295=0:=by decide +kernel
 have e2:=Cz c hc;have e3:(c:Int)/4294967296=0:=by omega
 have e4:=wrap_small c hc;go_enter Tryz.func119,Tryz.ntmps119;go_wp2
 go_ret2
 exact⟨rfl,rfl⟩
theorem mul_one(c:Nat)(w:World)(hc:(c:Int)<=1000) :
  Calls Tryz.prog 90 #[.int .u64 1,.int .u64 (c:Nat)] w fun e w'=>e = .returned (.tuple #[.int .u64 0,.int .u64 (c:Nat)])/\w'=w:=by
 go_enter Tryz.func90,Tryz.ntmps90;go_wp2_with (go_at_call 119;refine(BE c _ hc).mono ?_;rintro e w' ⟨rfl,hw⟩;rw[hw];clear hw)
 go_ret2
 exact⟨rfl,rfl⟩
theorem Et{w:World}{base g n:Nat}{e:TypeId}{xs:List Value}(h:w.ownsRow base e 1 (.slice (some ⟨g,0,none⟩) n n) n xs):w.heap[g]?=some (.cells xs.toArray e (0,0)):=by
 rcases h.2 with⟨e,_⟩|⟨g',cap,cur,e',_,hg,_,_,hs,ht⟩
 · cases e
 · simp only[a0O,a0n,a0z,a0Q]at e';obtain⟨rfl,-,rfl⟩:=e';rw[a0C (by simp;omega)]at ht;rw[hg,←ht]
theorem Dn{w:World}{base g n:Nat}{e:TypeId}{xs:List Value}(h:w.heap[g]?=some (.cells xs.toArray e (0,0)))(hn:xs.length=n)(hb:base<=g)(hm:n<=maxLen):w.ownsRow base e 1 (.slice (some ⟨g,0,none⟩) n n) n xs:=
 ⟨by omega,.inr ⟨g,n,xs.toArray,rfl,hb,h,a0a _,hm,by simp;omega,by simp;exact a0C (by omega)⟩⟩
def gF(v:Int)(k c:Nat):List Value:=List.replicate k (.int .i64 v)++List.replicate (c-k) (.int .i64 0)
theorem sC(v:Int)(k c:Nat)(h:k<=c):(gF v k c).length=c:=by simp[gF];omega
theorem pf(v:Int)(k m c:Nat)(h:k+m<=c):splice (gF v k c) k (List.replicate m (.int .i64 v))=gF v (k+m) c:=by
 unfold splice gF;rw[List.take_append_of_le_length (by simp),a0C (by simp),a2d,List.drop_of_length_le (by simp)];simp only[a0B,List.drop_replicate,a1d];rw[←a0W,List.replicate_append_replicate]
 congr 2
 omega
theorem AF{w:World}{g k c:Nat}{v:Int}{e:TypeId}(h:w.heap[g]?=some (.cells (gF v k c).toArray e (0,0)))(j:Nat)(hj:j<k):w.cell? ((⟨g,0,none⟩:Addr).add j)=some (.int .i64 v):=by
 have e1:(⟨g,0,none⟩:Addr).add j=⟨g,j,none⟩:=by unfold Addr.add;split<;>simp_all
 rw[e1];simp only[World.cell?,h,gF];simp[List.getElem?_append,hj]
theorem EJ(v:Int)(m j:Nat)(u:Value)(h:(List.replicate m (Value.int .i64 v))[j]?=some u):j<m/\u = .int .i64 v:=by
 rw[List.getElem?_replicate]at h;by_cases hj:j<m
 · rw[a0d hj]at h;exact⟨hj,(a1J h).symm⟩
 · rw[a0e hj]at h;cases h
theorem EK(v:Int)(m:Nat):∀u∈List.replicate m (Value.int .i64 v),u.oneCell'=true:=by
 intro u hu;rw[(List.mem_replicate.1 hu).2];rfl
theorem Bw(n:Nat):(madeCells (Value.int .i64 0).cells (n*1)).toList=gF 0 0 n:=by
 unfold gF;simp only[List.replicate_zero,a1d,Nat.sub_zero,Nat.mul_one];apply List.ext_getElem?;intro i;by_cases hi:i<n
 · rw[List.getElem?_replicate,a0d hi,List.getElem?_eq_getElem (by simpa[madeCells]using hi)];simp[madeCells,Value.cells,a1C]
 · rw[List.getElem?_eq_none (by simp[madeCells];omega),List.getElem?_eq_none (by simp;omega)]
set_option maxRecDepth 100000 in
theorem mQ(v:Int)(c cap g o:Nat)(w:World)(hv:w.cell? ⟨g,o,none⟩=some (.int .i64 v))(h1:1<=c)(hc:(c:Int)<=1000) :
  Calls Tryz.prog 57 #[.slice (some ⟨g,o,none⟩) 1 cap,.int .i64 (c:Nat)] w fun e w'=>e = .returned (.slice (some ⟨w.heap.size,0,none⟩) c c)/\ak w' w.heap.size (.slice (some ⟨w.heap.size,0,none⟩) c c) (List.replicate c v)/\Below w.heap.size w w':=by
 obtain⟨i0,hi,hz0,hz1,hz2⟩:=a0x Tryz.infoInt;have hg:g<w.heap.size:=World.block_lt_of_cell? _ _ hv;have hw1:=wrap_small c hc;have hzs:(Tryz.prog.info? 3).map (·.size)=some 1:=by kernel_rfl
 have hn1:([.int .i64 v]:List Value).length=Nat.min 1 c:=by show 1=min 1 c;omega
 have hf1:0+([.int .i64 v]:List Value).length<=(gF v 0 c).length:=by rw[sC v 0 c (by omega)];simpa using h1
 have ho1:∀u∈([.int .i64 v]:List Value),u.oneCell'=true:=by intro u hu;simp at hu;subst hu;rfl
 have HP:Hid (∀w1:World,w1.cell? ⟨g,o,none⟩=some (.int .i64 v)->∀(j:Nat) (u:Value),([.int .i64 v]:List Value)[j]?=some u->w1.cell? ((⟨g,o,none⟩:Addr).add j)=some u):=by
  intro w1 h j u hj
  match j,hj with
  | 0,hj=>simp at hj;subst hj;simpa[Addr.add]using h
 have Hn1:=af hn1;have Hf1:=af hf1;clear hn1 hf1;go_enter Tryz.func57,Tryz.ntmps57;go_wp2_with (first
  | (at_make;refine a1m _ rfl _ _ 84 rfl w.heap.size 3 i0 (.int .i64 0) 1 a0h hi hz0 hz1 .i64 .i64 _ _ c rfl rfl rfl rfl (by rw[hz2];omega) (by unfold maxLen;omega) (a0a _) ?_;intro w1 hown hgrow;rw[Bw]at hown;have hblk:=Et hown;have hb0:Below w.heap.size w w1:=(a0c _ _).grown hgrow (a0a _) (fun k h=>by cases h);have hv1:=(hb0.cell (p:=⟨g,o,none⟩) hg).trans hv;clear hown hgrow)
  | (refine wpList_copy_splice rfl (.tmp 31) (.tmp 32) 84 84 rfl 3 a0h hzs _ _ _ _ _ _ rfl rfl w.heap.size 0 (gF v 0 c) 3 hblk [.int .i64 v] (ae Hn1) (fun _=>⟨rfl,⟨g,o,none⟩,rfl,ae HP _ hv1⟩) (ae Hf1) ho1 w.heap.size w hb0 (a0a _) ?_;intro w2 hg2 hb2)
  | (go_at_call 90;refine(mul_one c _ hc).mono ?_;rintro e w' ⟨rfl,hw⟩;rw[hw];clear hw))
 have hg2':w2.heap[w.heap.size]?=some (.cells (gF v 1 c).toArray 3 (0,0)):=by
  have:=ae hg2;rw[show([.int .i64 v]:List Value)=List.replicate 1 (.int .i64 v)from rfl,pf v 0 1 c (by omega)]at this;simpa using this
 clear hg2 hv1 hblk hb0;have HZI:Hid (∀k m:Nat,(List.replicate m (Value.int .i64 v)).length=m):=fun k m=>by simp
 go_loopw [8] (fun n wr=>∃k:Nat,1<=k/\k<=c/\n = .int .i64 k/\wr.heap[w.heap.size]?=some (.cells (gF v k c).toArray 3 (0,0))/\Below w.heap.size w wr) (fun n _=>c-(intOf n).toNat)
 case atStart=>exact⟨1,a0a _,h1,rfl,hg2',hb2⟩
 case round=>
  obtain⟨k,hk1,hkc,rfl,hgk,hbk⟩:=hrel;clear hg2' hb2;by_cases hlt:k<c
  ·
   have hkI:(k:Int)<(c:Int):=by omega
   have hkI1:(1:Int)<=(k:Int):=by omega
   obtain⟨m,hm⟩:∃m,m=Nat.min k (c-k):=⟨_,rfl⟩;have hmk:m<=k:=by rw[hm];exact Nat.min_le_left _ _
   have hmc:k+m<=c:=by
    have:m<=c-k:=by rw[hm];exact Nat.min_le_right _ _
    omega
   have hm1:1<=m:=by
    have:m=min k (c-k):=hm;omega
   have Hn2:Hid ((List.replicate m (Value.int .i64 v)).length=Nat.min k (c-k)):=by show _=_;rw[a0B];exact hm
   have Hs2:Hid (∀(j:Nat) (u:Value),(List.replicate m (Value.int .i64 v))[j]?=some u->wr.cell? ((⟨w.heap.size,0,none⟩:Addr).add j)=some u):=by
    intro j u hj;obtain⟨h1,rfl⟩:=EJ v m j u hj;exact AF hgk j (by omega)
   have Hf2:Hid (k+(List.replicate m (Value.int .i64 v)).length<=(gF v k c).length):=by show _<=_;rw[sC v k c (by omega),a0B];exact hmc
   have Hsp:=af (pf v k m c hmc);have HM:=af (a0b hmk (a0b hmc hm1));have hmI:(k:Int)+(m:Int)<=1000:=by omega
   have HGK:=af hgk;have HBK:=af hbk;have hck:¬ c=k:=by omega
   clear hm hmk hmc hm1 hgk hbk;go_wp2_with fail
   go_region_law (first|(refine step_copy_splice rfl (.tmp 41) (.tmp 44) 84 84 rfl 3 a0h hzs (some ⟨w.heap.size,k,none⟩) (some ⟨w.heap.size,0,none⟩) (c-k) (c-k) k c (by simp[Act.eval,Act.put]) (by simp[Act.eval,Act.put]) w.heap.size k (gF v k c) 3 (ae HGK) (List.replicate m (.int .i64 v)) (ae Hn2) (fun _=>⟨rfl,⟨w.heap.size,0,none⟩,rfl,ae Hs2⟩) (ae Hf2) (EK v m) w.heap.size w (ae HBK).drew (a0a _) ?_;intro w3 hg3 hb3))
   rw[ae Hsp]at hg3;have HG3:=af (ae hg3);have HB3:=af hb3;clear hg3 hb3;have hwr:=df ((k:Int)+(m:Int)) (by omega) (by omega);go_simp;go_wp2;go_roundw
   case rel=>exact⟨k+m,by omega,(ae HM).2.1,by go_num,ae HG3,ae HB3⟩
   case measure=>have:=ae HM;simp[intOf];omega
  ·
   have:k=c:=by omega
   subst this;have HO:Hid (ak wr w.heap.size (.slice (some ⟨w.heap.size,0,none⟩) k k) (List.replicate k v)):=by
    show World.ownsRow _ _ _ _ _ (List.replicate k v).length _;rw[a0B];refine Dn ?_ (by simp) (a0a _) (by unfold maxLen;omega);rw[hgk];simp[gF]
   clear hgk;go_wp2;go_ret;exact⟨rfl,ae HO,hbk⟩
end Go.Proofs.YtbacpebljannfaaGreatDoor

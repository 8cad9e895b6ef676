/- Of what the proof is made: 3 texts, one behind the other. -/
import Derived.Test.YtkdlcomfpffhhaaGreatDoorM8
import Derived.Test.YtkdlcomfpffhhaaGreatDoorM5
import Derived.Laws.Bits64b
import Derived.Laws.CopyOwn
import Derived.Deep.RegionLaw
import Derived.Test.YtkdlcomfpffhhaaGreatDoorTi1
set_option linter.unusedSimpArgs false
set_option linter.unusedVariables false
set_option maxHeartbeats 3200000
namespace Go.Proofs.YtkdlcomfpffhhaaGreatDoor
open Go.RowKit
theorem EW(c:Nat)(hc:(c:Int)<=1000):bits .and .u64 (c:Int) 4294967295=(c:Int):=by
 have h:=Go.bits_and_u64_nat c 4294967295 (by omega) (by decide);have e:c &&& 4294967295=c:=by
  have:=Nat.and_two_pow_sub_one_eq_mod c 32;rw[show(2 ^ 32-1:Nat)=4294967295 by decide]at this;rw[this];omega
 rw[e]at h;exact h
theorem wrap_small(c:Nat)(hc:(c:Int)<=1000):IntKind.u64.wrap (c:Int)=(c:Int):=by
 simp only[IntKind.wrap,IntKind.signed,IntKind.bits];simp;omega
theorem Dz(c:Nat)(w:World)(hc:(c:Int)<=1000) :
  Calls Tryz.prog 200 #[.int .u64 1,.int .u64 (c:Nat)] w fun e w'=>e = .returned (.tuple #[.int .u64 0,.int .u64 (c:Nat)])/\w'=w:=by
 have e1:bits .and .u64 1 4294967295=1:=by decide +kernel
 have e0:bits .and .u64 0 4294967295=0:=by decide +kernel
 have e2:=EW c hc;have e3:(c:Int)/4294967296=0:=by omega
 have e4:=wrap_small c hc;go_enter Tryz.func200,Tryz.ntmps200;go_wp2
 go_ret2
 exact⟨rfl,rfl⟩
theorem mul_one(c:Nat)(w:World)(hc:(c:Int)<=1000) :
  Calls Tryz.prog 161 #[.int .u64 1,.int .u64 (c:Nat)] w fun e w'=>e = .returned (.tuple #[.int .u64 0,.int .u64 (c:Nat)])/\w'=w:=by
 go_enter Tryz.func161,Tryz.ntmps161;go_wp2_with (go_at_call 200;refine(Dz c _ hc).mono ?_;rintro e w' ⟨rfl,hw⟩;rw[hw];clear hw)
 go_ret2
 exact⟨rfl,rfl⟩
theorem Hh{w:World}{base g n:Nat}{e:TypeId}{xs:List Value}(h:w.ownsRow base e 1 (.slice (some ⟨g,0,none⟩) n n) n xs):w.heap[g]?=some (.cells xs.toArray e (0,0)):=by
 rcases h.2 with⟨e,_⟩|⟨g',cap,cur,e',_,hg,_,_,hs,ht⟩
 · cases e
 · simp only[a0L,a0j,a0w,a0V]at e';obtain⟨rfl,-,rfl⟩:=e';rw[a0s (by simp;omega)]at ht;rw[hg,←ht]
theorem F2{w:World}{base g n:Nat}{e:TypeId}{xs:List Value}(h:w.heap[g]?=some (.cells xs.toArray e (0,0)))(hn:xs.length=n)(hb:base<=g)(hm:n<=maxLen):w.ownsRow base e 1 (.slice (some ⟨g,0,none⟩) n n) n xs:=
 ⟨by omega,.inr ⟨g,n,xs.toArray,rfl,hb,h,a0a _,hm,by simp;omega,by simp;exact a0s (by omega)⟩⟩
def gj(v:Int)(k c:Nat):List Value:=List.replicate k (.int .i64 v)++List.replicate (c-k) (.int .i64 0)
theorem sQ(v:Int)(k c:Nat)(h:k<=c):(gj v k c).length=c:=by simp[gj];omega
theorem oI(v:Int)(k m c:Nat)(h:k+m<=c):splice (gj v k c) k (List.replicate m (.int .i64 v))=gj v (k+m) c:=by
 unfold splice gj;rw[a1p (by simp),a0s (by simp),a2F,a2G (by simp)];simp only[a0E,List.drop_replicate,a04];rw[←a0U,List.replicate_append_replicate]
 congr 2
 omega
theorem CJ{w:World}{g k c:Nat}{v:Int}{e:TypeId}(h:w.heap[g]?=some (.cells (gj v k c).toArray e (0,0)))(j:Nat)(hj:j<k):w.cell? ((⟨g,0,none⟩:Addr).add j)=some (.int .i64 v):=by
 have e1:(⟨g,0,none⟩:Addr).add j=⟨g,j,none⟩:=by unfold Addr.add;split<;>simp_all
 rw[e1];simp only[World.cell?,h,gj];simp[List.getElem?_append,hj]
theorem Ii(v:Int)(m j:Nat)(u:Value)(h:(List.replicate m (Value.int .i64 v))[j]?=some u):j<m/\u = .int .i64 v:=by
 rw[List.getElem?_replicate]at h;by_cases hj:j<m
 · rw[a0d hj]at h;exact⟨hj,(a08 h).symm⟩
 · rw[a0e hj]at h;cases h
theorem Ij(v:Int)(m:Nat):∀u∈List.replicate m (Value.int .i64 v),u.oneCell'=true:=by
 intro u hu;rw[(List.mem_replicate.1 hu).2];rfl
theorem Dt(n:Nat):(madeCells (Value.int .i64 0).cells (n*1)).toList=gj 0 0 n:=by
 unfold gj;simp only[List.replicate_zero,a04,Nat.sub_zero,a2B];apply List.ext_getElem?;intro i;by_cases hi:i<n
 · rw[List.getElem?_replicate,a0d hi,List.getElem?_eq_getElem (by simpa[madeCells]using hi)];simp[madeCells,Value.cells,a2k]
 · rw[List.getElem?_eq_none (by simp[madeCells];omega),List.getElem?_eq_none (by simp;omega)]
set_option maxRecDepth 100000 in
theorem mj(v:Int)(c cap g o:Nat)(w:World)(hv:w.cell? ⟨g,o,none⟩=some (.int .i64 v))(h1:1<=c)(hc:(c:Int)<=1000) :
  Calls Tryz.prog 115 #[.slice (some ⟨g,o,none⟩) 1 cap,.int .i64 (c:Nat)] w fun e w'=>e = .returned (.slice (some ⟨w.heap.size,0,none⟩) c c)/\ar w' w.heap.size (.slice (some ⟨w.heap.size,0,none⟩) c c) (List.replicate c v)/\Below w.heap.size w w':=by
 obtain⟨i0,hi,hz0,hz1,hz2⟩:=a0z Tryz.infoInt;have hg:g<w.heap.size:=World.block_lt_of_cell? _ _ hv;have hw1:=wrap_small c hc;have hzs:(Tryz.prog.info? 3).map (·.size)=some 1:=by kernel_rfl
 have hn1:([.int .i64 v]:List Value).length=Nat.min 1 c:=by show 1=min 1 c;omega
 have hf1:0+([.int .i64 v]:List Value).length<=(gj v 0 c).length:=by rw[sQ v 0 c (by omega)];simpa using h1
 have ho1:∀u∈([.int .i64 v]:List Value),u.oneCell'=true:=by intro u hu;simp at hu;subst hu;rfl
 have HP:Hid (∀w1:World,w1.cell? ⟨g,o,none⟩=some (.int .i64 v)->∀(j:Nat) (u:Value),([.int .i64 v]:List Value)[j]?=some u->w1.cell? ((⟨g,o,none⟩:Addr).add j)=some u):=by
  intro w1 h j u hj
  match j,hj with
  | 0,hj=>simp at hj;subst hj;simpa[Addr.add]using h
 have Hn1:=af hn1;have Hf1:=af hf1;clear hn1 hf1;go_enter Tryz.func115,Tryz.ntmps115;go_wp2_with (first
  | (at_make;refine a3m _ rfl _ _ 146 rfl w.heap.size 3 i0 (.int .i64 0) 1 a05 hi hz0 hz1 .i64 .i64 _ _ c rfl rfl rfl rfl (by rw[hz2];omega) (by unfold maxLen;omega) (a0a _) ?_;intro w1 hown hgrow;rw[Dt]at hown;have hblk:=Hh hown;have hb0:Below w.heap.size w w1:=(a0c _ _).grown hgrow (a0a _) (fun k h=>by cases h);have hv1:=(hb0.cell (p:=⟨g,o,none⟩) hg).trans hv;clear hown hgrow)
  | (refine wpList_copy_splice rfl (.tmp 31) (.tmp 32) 146 146 rfl 3 a05 hzs _ _ _ _ _ _ rfl rfl w.heap.size 0 (gj v 0 c) 3 hblk [.int .i64 v] (ae Hn1) (fun _=>⟨rfl,⟨g,o,none⟩,rfl,ae HP _ hv1⟩) (ae Hf1) ho1 w.heap.size w hb0 (a0a _) ?_;intro w2 hg2 hb2)
  | (go_at_call 161;refine(mul_one c _ hc).mono ?_;rintro e w' ⟨rfl,hw⟩;rw[hw];clear hw))
 have hg2':w2.heap[w.heap.size]?=some (.cells (gj v 1 c).toArray 3 (0,0)):=by
  have:=ae hg2;rw[show([.int .i64 v]:List Value)=List.replicate 1 (.int .i64 v)from rfl,oI v 0 1 c (by omega)]at this;simpa using this
 clear hg2 hv1 hblk hb0
 go_loopw [8] (fun n wr=>∃k:Nat,1<=k/\k<=c/\n = .int .i64 k/\wr.heap[w.heap.size]?=some (.cells (gj v k c).toArray 3 (0,0))/\Below w.heap.size w wr) (fun n _=>c-(intOf n).toNat)
 case atStart=>exact⟨1,a0a _,h1,rfl,hg2',hb2⟩
 case round=>
  obtain⟨k,hk1,hkc,rfl,hgk,hbk⟩:=hrel;clear hg2' hb2;by_cases hlt:k<c
  ·
   have hkI:(k:Int)<(c:Int):=by omega
   obtain⟨m,hm⟩:∃m,m=Nat.min k (c-k):=⟨_,rfl⟩;have hmk:m<=k:=by rw[hm];exact Nat.min_le_left _ _
   have hmc:k+m<=c:=by
    have:m<=c-k:=by rw[hm];exact Nat.min_le_right _ _
    omega
   have hm1:1<=m:=by
    have:m=min k (c-k):=hm;omega
   have Hn2:Hid ((List.replicate m (Value.int .i64 v)).length=Nat.min k (c-k)):=by show _=_;rw[a0E];exact hm
   have Hs2:Hid (∀(j:Nat) (u:Value),(List.replicate m (Value.int .i64 v))[j]?=some u->wr.cell? ((⟨w.heap.size,0,none⟩:Addr).add j)=some u):=by
    intro j u hj;obtain⟨h1,rfl⟩:=Ii v m j u hj;exact CJ hgk j (by omega)
   have Hf2:Hid (k+(List.replicate m (Value.int .i64 v)).length<=(gj v k c).length):=by show _<=_;rw[sQ v k c (by omega),a0E];exact hmc
   have Hsp:=af (oI v k m c hmc);have HM:=af (a0b hmk (a0b hmc hm1));have hmI:(k:Int)+(m:Int)<=1000:=by omega
   have HGK:=af hgk;have HBK:=af hbk;have hck:¬ c=k:=by omega
   clear hm hmk hmc hm1 hgk hbk;go_wp2_with fail
   go_region_law (first|(refine step_copy_splice rfl (.tmp 41) (.tmp 44) 146 146 rfl 3 a05 hzs (some ⟨w.heap.size,k,none⟩) (some ⟨w.heap.size,0,none⟩) (c-k) (c-k) k c (by simp[Act.eval,Act.put]) (by simp[Act.eval,Act.put]) w.heap.size k (gj v k c) 3 (ae HGK) (List.replicate m (.int .i64 v)) (ae Hn2) (fun _=>⟨rfl,⟨w.heap.size,0,none⟩,rfl,ae Hs2⟩) (ae Hf2) (Ij v m) w.heap.size w (ae HBK).drew (a0a _) ?_;intro w3 hg3 hb3))
   rw[ae Hsp]at hg3;have HG3:=af (ae hg3);have HB3:=af hb3;clear hg3 hb3;have hwr:=ee ((k:Int)+(m:Int)) (by omega) (by omega);go_simp;go_wp2;go_roundw
   case rel=>exact⟨k+m,by omega,(ae HM).2.1,by go_num,ae HG3,ae HB3⟩
   case measure=>have:=ae HM;simp[intOf];omega
  ·
   have:k=c:=by omega
   subst this;have HO:Hid (ar wr w.heap.size (.slice (some ⟨w.heap.size,0,none⟩) k k) (List.replicate k v)):=by
    show World.ownsRow _ _ _ _ _ (List.replicate k v).length _;rw[a0E];refine F2 ?_ (by simp) (a0a _) (by unfold maxLen;omega);rw[hgk];simp[gj]
   clear hgk;go_wp2;go_ret;exact⟨rfl,ae HO,hbk⟩
set_option maxRecDepth 100000 in
theorem mc(base n cap:Nat)(a:Option Addr)(s:List UInt8)(x:Int)(w:World)(hn:s.length=n)(h:bG w base (.slice a n cap) s)(hm:n<=100000)(hb:base<=w.heap.size)(x0:0<=x)(x1:x<=255) :
  Calls Tryz.prog 279 #[.slice a n cap,.iface 247 (.int .u8 x)] w fun e w'=>∃v,e = .returned (.tuple #[v,.bool (decide (n+1<=300))])/\bG w' base v (if n+1<=300 then s++[jT x]else [])/\Below base w w':=by
 obtain⟨i0,hi,hz0,hz1,hz2⟩:=a0z Tryz.infoU8;have hmI:(n:Int)<=100000:=by omega
 have m1:=rj;have t1:=iY;have HN:=af (a0b hn hm);by_cases hl:n+1<=300
 ·
  obtain⟨N,hN⟩:∃N:Int,(n:Int)+1=N:=⟨_,rfl⟩;have hlI:¬ (300:Int)<N:=by omega
  have hdI:decide ((300:Int)<N)=false:=a0p hlI;have hbx:Hid (x=((jT x).toNat:Int)):=(sH x0 x1).symm;have bd:Hid (n+1<=maxLen/\(n+1)*1<=140737488355328):=by show _/\_;unfold maxLen;omega
  have hqo:=af (h.own hn);rw[a0G hl,a0d hl];clear hn h hm hl;go_enter a1L,a1M;go_wp2_with fail;refine(eQ x w).mono ?_;rintro e w' ⟨rfl,hw'⟩;rw[hw'];clear hw' w';go_wp2_with (at_builtin;refine a0H _ rfl _ _ 22 rfl base 5 i0 (.int .u8 0) 1 1 a1m hi hz0 hz1 hz2 rfl (by decide) _ _ _ rfl (a0n (ae hqo) _) ⟨w.heap.size,0,none⟩ 1 1 [.int .u8 x] rfl rfl (fO _ _ rfl _ _) (one_byte _) (ae bd).1 (ae bd).2 (aB hb _) ?_;intro v' x2 hown hgrow hnil;clear hnil);have hb2:Below base w x2:=aJ (v:=.slice a n cap) hgrow (ae hqo) (a0a _) hb (a0c _ _);rw[ae hbx]at hown;have hq2:=kU (ae HN).1 hown;obtain⟨va,vc,rfl⟩:=hq2.form;clear hown hgrow;go_wp2
  go_ret2
  exact⟨_,rfl,hq2,hb2⟩
 ·
  obtain⟨N,hN⟩:∃N:Int,(n:Int)+1=N:=⟨_,rfl⟩;have hlI:(300:Int)<N:=by omega
  rw[a0p hl,a0e hl];clear hn h hm hl;go_enter a1L,a1M;go_wp2_with fail;refine(eQ x w).mono ?_;rintro e w' ⟨rfl,hw'⟩;rw[hw'];clear hw' w';go_wp2
  go_ret2
  exact⟨_,rfl,bG.nil _ _,a0c _ _⟩
set_option maxRecDepth 100000 in
theorem ma(base n cap Y Z:Nat)(a:Option Addr)(s:List UInt8)(w:World)(hn:s.length=n)(h:bG w base (.slice a n cap) s)(hm:n<=100000)(hb:base<=w.heap.size)(y1:Y<=60)(z0:1<=Z)(z1:Z<=250) :
  Calls Tryz.prog 279 #[.slice a n cap,.iface 249 (.agg #[.int .i64 (Y:Nat),.int .i64 (Z:Nat)])] w fun e w'=>∃v,e = .returned (.tuple #[v,.bool (decide (n+Y<=300/\Z<=n))])/\bG w' base v (if n+Y<=300/\Z<=n then rep s Z Y else [])/\Below base w w':=by
 obtain⟨i0,hi,hz0,hz1,hz2⟩:=a0z Tryz.infoU8;have hmI:(n:Int)<=100000:=by omega
 have hYI:(Y:Int)<=60:=by omega
 have hZI:(Z:Int)<=250:=by omega
 have hZ1:(1:Int)<=(Z:Int):=by omega
 have m1:=rh;have t1:=kS;have t2:=iX;have HN:=af (a0b hn (a0b hm z0));have HS:=af (iZ (Y:Nat) (Z:Nat) w);have hB1:Below base w (w.alloc (.cells #[.int .i64 (Y:Nat),.int .i64 (Z:Nat)] 249)):=(a0c _ _).alloc hb _;by_cases hl:n+Y<=300
 ·
  have hlI:¬ (300:Int)<(n:Int)+(Y:Int):=by omega
  by_cases hf:Z<=n
  ·
   have hfI:¬ (n:Int)<(Z:Int):=by omega
   have hdz:decide (n<Z)=false:=a0p (by omega);rw[a0G ⟨hl,hf⟩,a0d ⟨hl,hf⟩];have hF:=af hf;have hq0:bG ((w.alloc (.cells #[.int .i64 (Y:Nat),.int .i64 (Z:Nat)] 249)).alloc (.cells #[.int .i64 (Y:Nat),.int .i64 (Z:Nat)] 249)) base (.slice a n cap) s:=(h.later ((a0c w.heap.size w).alloc (a0a _) _) (a0a _)).later ((a0c _ _).alloc (a0a _) _) (a0a _);have hB2:Below base w ((w.alloc (.cells #[.int .i64 (Y:Nat),.int .i64 (Z:Nat)] 249)).alloc (.cells #[.int .i64 (Y:Nat),.int .i64 (Z:Nat)] 249)):=hB1.alloc (by simp;omega) _;have hbx:((w.alloc (.cells #[.int .i64 (Y:Nat),.int .i64 (Z:Nat)] 249)).alloc (.cells #[.int .i64 (Y:Nat),.int .i64 (Z:Nat)] 249)).heap[w.heap.size+1]?=some (Obj.cells #[.int .i64 (Y:Nat),.int .i64 (Z:Nat)] 249):=by
    have e:(w.alloc (.cells #[.int .i64 (Y:Nat),.int .i64 (Z:Nat)] 249)).heap.size=w.heap.size+1:=by simp
    rw[←e];exact alloc_at _ _
   have H0:=af (a0b hq0 (a0b hB2 hbx));clear hn h hm hl hf y1 z0 z1 hq0 hB2 hbx hB1;go_enter a1L,a1M;go_wp2_with fail;refine(ae HS).mono ?_;rintro e w' ⟨rfl,hw'⟩;rw[hw'];clear hw' w';go_wp2_with fail
   go_loopw [0,32] (fun v i wr=>∃k:Nat,k<=Y/\i = .int .i64 k/\bG wr base v (rep s Z k)/\wr.heap[w.heap.size+1]?=some (Obj.cells #[.int .i64 (Y:Nat),.int .i64 (Z:Nat)] 249)/\Below base w wr) (fun _ i _=>Y-(intOf i).toNat)
   case atStart=>exact⟨0,a0h _,rfl,(ae H0).1,(ae H0).2.2,(ae H0).2.1⟩
   case round=>
    obtain⟨k,hk,rfl,hq,hbox,hbel⟩:=hrel;obtain⟨c0,c1,hlw⟩:=cf hbox;have hlen:Hid ((rep s Z k).length=n+k):=by show _=_;rw[pO,(ae HN).1]
    obtain⟨va,vc,rfl⟩:=hq.formN (ae hlen);have HK:=af hk;by_cases hlt:k<Y
    ·
     obtain⟨g,rfl⟩:=hq.somes (by rw[ae hlen];have:=ae hF;have:=(ae HN).2.2;omega);obtain⟨p,hp⟩:∃p,n+k-Z=p:=⟨_,rfl⟩;have hpI:((n:Int)+(k:Int))-(Z:Int)=(p:Int):=by have:=ae hF;omega
     obtain⟨d0,_,_⟩:=hq.at (j:=p) (ae hlen) (by have:=ae hF;have:=(ae HN).2.2;omega);have hst:Hid (rep s Z (k+1)=rep s Z k++[(rep s Z k).getD p 0]):=by
      show _=_;simp only[rep];rw[ae hlen,hp]
     have hbs:=a0P hb hbel.size;have bd:Hid (n+k+1<=maxLen/\(n+k+1)*1<=140737488355328):=by show _/\_;have:=(ae HN).2.1;unfold maxLen;omega
     have hpn:(p:Int)<(n:Int)+(k:Int):=by omega
     have HQ:=af (a0b hq (a0b hbox hbel));have hqo:=af (hq.own (ae hlen));clear hq hbox hbel hk hp;generalize (rep s Z k).getD p 0=b at *
     go_wp2_with (at_builtin;refine a0H _ rfl _ _ 22 rfl base 5 i0 (.int .u8 0) 1 1 a1m hi hz0 hz1 hz2 rfl (by decide) _ _ _ rfl (a0n (ae hqo) _) ⟨wr.heap.size,0,none⟩ 1 1 [.int .u8 (b.toNat:Int)] rfl rfl (fO _ _ rfl _ _) (one_byte _) (ae bd).1 (ae bd).2 (aB hbs _) ?_;intro v' x2 hown hgrow hnil;clear hnil);obtain⟨hq,hbox,hbel⟩:=ae HQ;have hb2:=aJ (v:=.slice (some ⟨g,0,none⟩) (n+k) vc) hgrow (ae hqo) (a0a _) hbs hbel;have hq2:=kU (ae hlen) hown;rw[←ae hst]at hq2;have hbox2:=((aU.refl 249 wr).alloc (.cells #[.int .u8 (b.toNat:Int)] 5)).grown (a0n (ae hqo) _) (by decide) hgrow _ _ _ hbox;clear hown hgrow hq hbox hbel;go_wp2;go_roundw
     case rel=>exact⟨k+1,by have:=ae HK;omega,by go_num,hq2,hbox2,hb2⟩
     case measure=>simp[intOf];omega
    ·
     obtain rfl:k=Y:=by omega
     go_wp2
     go_ret2
     exact⟨_,rfl,hq,hbel⟩
  ·
   have hfI:(n:Int)<(Z:Int):=by omega
   have hB2:Below base w ((w.alloc (.cells #[.int .i64 (Y:Nat),.int .i64 (Z:Nat)] 249)).alloc (.cells #[.int .i64 (Y:Nat),.int .i64 (Z:Nat)] 249)):=hB1.alloc (by simp;omega) _;rw[a0p (fun x=>hf x.2),a0e (fun x=>hf x.2)];clear hn h hm hl hf y1 z0 z1;go_enter a1L,a1M;go_wp2_with fail;refine(ae HS).mono ?_;rintro e w' ⟨rfl,hw'⟩;rw[hw'];clear hw' w';go_wp2
   go_ret2
   exact⟨_,rfl,bG.nil _ _,hB2⟩
 ·
  have hlI:(300:Int)<(n:Int)+(Y:Int):=by omega
  rw[a0p (fun x=>hl x.1),a0e (fun x=>hl x.1)];clear hn h hm hl y1 z0 z1;go_enter a1L,a1M;go_wp2_with fail;refine(ae HS).mono ?_;rintro e w' ⟨rfl,hw'⟩;rw[hw'];clear hw' w';go_wp2
  go_ret2
  exact⟨_,rfl,bG.nil _ _,hB1⟩
theorem lzLay_any(base n cap:Nat)(a:Option Addr)(s:List UInt8)(t:Tk)(w:World)(hn:s.length=n)(h:bG w base (.slice a n cap) s)(hm:n<=100000)(hb:base<=w.heap.size)(ho:okT t=true) :
  Calls Tryz.prog 279 #[.slice a n cap,dY t] w fun e w'=>∃v,e = .returned (.tuple #[v,.bool (dE s t).isSome])/\bG w' base v ((dE s t).getD [])/\Below base w w':=by
 cases hB:isB t
 ·
  have hK:isK t=true:=by simpa[okT,hB]using ho
  rw[ms hK];have hK2:=hK;simp only[isK,a0i,a0q]at hK2;obtain⟨⟨_,hy⟩,hz⟩:=hK2;obtain⟨y1,y2⟩:=aD.1 hy;obtain⟨z1,z2⟩:=aD.1 hz;obtain⟨Y,hY⟩:=a0u (show 0<=t.2.1 by omega);obtain⟨Z,hZ⟩:=a0u (show 0<=t.2.2 by omega);rw[hY,hZ];have hs:nr t=Y:=by unfold nr;rw[hB,hY];simp
  refine(ma base n cap Y Z a s w hn h hm hb (by omega) (by omega) (by omega)).mono ?_;rintro e w' ⟨v,rfl,hq,hbel⟩;by_cases hc:n+Y<=300/\Z<=n
  · have hA:=iL (s:=s) ho (fun _=>by rw[hZ,hn];omega) (by rw[hs,hn];exact hc.1);rw[hB,hY,hZ]at hA;simp only[a1w,a1x,a0r]at hA;rw[a0d hc]at hq;rw[hA,a0G hc];exact⟨v,rfl,hq,hbel⟩
  ·
   have hA:dE s t=none:=by
    by_cases hl:n+Y<=300
    · exact vp hK (by rw[hZ,hn];omega)
    · exact kR (by rw[hs,hn];omega)
   rw[a0e hc]at hq;rw[hA,a0p hc];exact⟨v,rfl,hq,hbel⟩
 ·
  rw[jv hB];have hB2:=hB;simp only[isB,a0i,a0q]at hB2;obtain⟨x1,x2⟩:=aD.1 hB2.2.1;have hs:nr t=1:=by unfold nr;rw[hB];rfl
  refine(mc base n cap a s t.1 w hn h hm hb x1 x2).mono ?_;rintro e w' ⟨v,rfl,hq,hbel⟩;by_cases hc:n+1<=300
  · have hA:=iL (s:=s) ho (fun hk=>by rw[s9 hB]at hk;cases hk) (by rw[hs,hn];exact hc);rw[hB]at hA;simp only[a0Z]at hA;rw[a0d hc]at hq;rw[hA,a0G hc];exact⟨v,rfl,hq,hbel⟩
  · have hA:dE s t=none:=kR (by rw[hs,hn];omega);rw[a0e hc]at hq;rw[hA,a0p hc];exact⟨v,rfl,hq,hbel⟩
end Go.Proofs.YtkdlcomfpffhhaaGreatDoor
namespace Go.Proofs.YtkdlcomfpffhhaaGreatDoor.U
open Go.Proofs.YtkdlcomfpffhhaaGreatDoor
open Go.RowKit
set_option maxRecDepth 100000 in
theorem mc(base n cap:Nat)(a:Option Addr)(s:List UInt8)(x:Int)(w:World)(hn:s.length=n)(h:bG w base (.slice a n cap) s)(hm:n<=100000)(hb:base<=w.heap.size)(x0:0<=x)(x1:x<=255) :
  Calls Tryz.prog 279 #[.slice a n cap,.iface 247 (.int .u8 x)] w fun e w'=>∃v,e = .returned (.tuple #[v,.bool (decide (n+1<=300))])/\bG w' base v (if n+1<=300 then s++[jT x]else [])/\dT base w w':=by
 obtain⟨i0,hi,hz0,hz1,hz2⟩:=info_parts Tryz.infoU8;have hmI:(n:Int)<=100000:=by omega
 have m1:=rj;have t1:=iY;have HN:=af (And.intro hn hm);by_cases hl:n+1<=300
 ·
  obtain⟨N,hN⟩:∃N:Int,(n:Int)+1=N:=⟨_,rfl⟩;have hlI:¬ (300:Int)<N:=by omega
  have hdI:decide ((300:Int)<N)=false:=decide_eq_false hlI;have hbx:Hid (x=((jT x).toNat:Int)):=(sH x0 x1).symm;have bd:Hid (n+1<=maxLen/\(n+1)*1<=140737488355328):=by show _/\_;unfold maxLen;omega
  have hqo:=af (h.own hn);rw[decide_eq_true hl,if_pos hl];clear hn h hm hl;go_enter Tryz.func279,Tryz.ntmps279;go_wp2_with fail;refine(eQ x w).mono ?_;rintro e w' ⟨rfl,hw'⟩;rw[hw'];clear hw' w';go_wp2_with (at_builtin;refine wpList_append_own _ rfl _ _ 22 rfl base 5 i0 (.int .u8 0) 1 1 Tryz.underlying22 hi hz0 hz1 hz2 rfl (by decide) _ _ _ rfl (World.ownsRow.alloc (ae hqo) _) ⟨w.heap.size,0,none⟩ 1 1 [.int .u8 x] rfl rfl (fO _ _ rfl _ _) (one_byte _) (ae bd).1 (ae bd).2 (aB hb _) ?_;intro v' x2 hown hgrow hnil;clear hnil);have hb2:dT base w x2:=oL (v:=.slice a n cap) hgrow (ae hqo) (Nat.le_refl _) hb (dT.refl _ _);rw[ae hbx]at hown;have hq2:=kU (ae HN).1 hown;obtain⟨va,vc,rfl⟩:=hq2.form;clear hown hgrow;go_wp2
  go_ret2
  exact⟨_,rfl,hq2,hb2⟩
 ·
  obtain⟨N,hN⟩:∃N:Int,(n:Int)+1=N:=⟨_,rfl⟩;have hlI:(300:Int)<N:=by omega
  rw[decide_eq_false hl,if_neg hl];clear hn h hm hl;go_enter Tryz.func279,Tryz.ntmps279;go_wp2_with fail;refine(eQ x w).mono ?_;rintro e w' ⟨rfl,hw'⟩;rw[hw'];clear hw' w';go_wp2
  go_ret2
  exact⟨_,rfl,bG.nil _ _,dT.refl _ _⟩
set_option maxRecDepth 100000 in
theorem ma(base n cap Y Z:Nat)(a:Option Addr)(s:List UInt8)(w:World)(hn:s.length=n)(h:bG w base (.slice a n cap) s)(hm:n<=100000)(hb:base<=w.heap.size)(y1:Y<=60)(z0:1<=Z)(z1:Z<=250) :
  Calls Tryz.prog 279 #[.slice a n cap,.iface 249 (.agg #[.int .i64 (Y:Nat),.int .i64 (Z:Nat)])] w fun e w'=>∃v,e = .returned (.tuple #[v,.bool (decide (n+Y<=300/\Z<=n))])/\bG w' base v (if n+Y<=300/\Z<=n then rep s Z Y else [])/\dT base w w':=by
 obtain⟨i0,hi,hz0,hz1,hz2⟩:=info_parts Tryz.infoU8;have hmI:(n:Int)<=100000:=by omega
 have hYI:(Y:Int)<=60:=by omega
 have hZI:(Z:Int)<=250:=by omega
 have hZ1:(1:Int)<=(Z:Int):=by omega
 have m1:=rh;have t1:=kS;have t2:=iX;have HN:=af (And.intro hn (And.intro hm z0));have HS:=af (iZ (Y:Nat) (Z:Nat) w);have hB1:dT base w (w.alloc (.cells #[.int .i64 (Y:Nat),.int .i64 (Z:Nat)] 249)):=(dT.refl _ _).alloc hb _;by_cases hl:n+Y<=300
 ·
  have hlI:¬ (300:Int)<(n:Int)+(Y:Int):=by omega
  by_cases hf:Z<=n
  ·
   have hfI:¬ (n:Int)<(Z:Int):=by omega
   have hdz:decide (n<Z)=false:=decide_eq_false (by omega);rw[decide_eq_true ⟨hl,hf⟩,if_pos ⟨hl,hf⟩];have hF:=af hf;have hq0:bG ((w.alloc (.cells #[.int .i64 (Y:Nat),.int .i64 (Z:Nat)] 249)).alloc (.cells #[.int .i64 (Y:Nat),.int .i64 (Z:Nat)] 249)) base (.slice a n cap) s:=(h.later ((Below.refl w.heap.size w).alloc (Nat.le_refl _) _) (Nat.le_refl _)).later ((Below.refl _ _).alloc (Nat.le_refl _) _) (Nat.le_refl _);have hB2:dT base w ((w.alloc (.cells #[.int .i64 (Y:Nat),.int .i64 (Z:Nat)] 249)).alloc (.cells #[.int .i64 (Y:Nat),.int .i64 (Z:Nat)] 249)):=hB1.alloc (by simp;omega) _;have hbx:((w.alloc (.cells #[.int .i64 (Y:Nat),.int .i64 (Z:Nat)] 249)).alloc (.cells #[.int .i64 (Y:Nat),.int .i64 (Z:Nat)] 249)).heap[w.heap.size+1]?=some (Obj.cells #[.int .i64 (Y:Nat),.int .i64 (Z:Nat)] 249):=by
    have e:(w.alloc (.cells #[.int .i64 (Y:Nat),.int .i64 (Z:Nat)] 249)).heap.size=w.heap.size+1:=by simp
    rw[←e];exact alloc_at _ _
   have H0:=af (And.intro hq0 (And.intro hB2 hbx));clear hn h hm hl hf y1 z0 z1 hq0 hB2 hbx hB1;go_enter Tryz.func279,Tryz.ntmps279;go_wp2_with fail;refine(ae HS).mono ?_;rintro e w' ⟨rfl,hw'⟩;rw[hw'];clear hw' w';go_wp2_with fail
   go_loopw [0,32] (fun v i wr=>∃k:Nat,k<=Y/\i = .int .i64 k/\bG wr base v (rep s Z k)/\wr.heap[w.heap.size+1]?=some (Obj.cells #[.int .i64 (Y:Nat),.int .i64 (Z:Nat)] 249)/\dT base w wr) (fun _ i _=>Y-(intOf i).toNat)
   case atStart=>exact⟨0,Nat.zero_le _,rfl,(ae H0).1,(ae H0).2.2,(ae H0).2.1⟩
   case round=>
    obtain⟨k,hk,rfl,hq,hbox,hbel⟩:=hrel;obtain⟨c0,c1,hlw⟩:=cf hbox;have hlen:Hid ((rep s Z k).length=n+k):=by show _=_;rw[pO,(ae HN).1]
    obtain⟨va,vc,rfl⟩:=hq.formN (ae hlen);have HK:=af hk;by_cases hlt:k<Y
    ·
     obtain⟨g,rfl⟩:=hq.somes (by rw[ae hlen];have:=ae hF;have:=(ae HN).2.2;omega);obtain⟨p,hp⟩:∃p,n+k-Z=p:=⟨_,rfl⟩;have hpI:((n:Int)+(k:Int))-(Z:Int)=(p:Int):=by have:=ae hF;omega
     obtain⟨d0,_,_⟩:=hq.at (j:=p) (ae hlen) (by have:=ae hF;have:=(ae HN).2.2;omega);have hst:Hid (rep s Z (k+1)=rep s Z k++[(rep s Z k).getD p 0]):=by
      show _=_;simp only[rep];rw[ae hlen,hp]
     have hbs:=Nat.le_trans hb hbel.size;have bd:Hid (n+k+1<=maxLen/\(n+k+1)*1<=140737488355328):=by show _/\_;have:=(ae HN).2.1;unfold maxLen;omega
     have hpn:(p:Int)<(n:Int)+(k:Int):=by omega
     have HQ:=af (And.intro hq (And.intro hbox hbel));have hqo:=af (hq.own (ae hlen));have Hp:=af hp;clear hq hbox hbel hk hp;generalize (rep s Z k).getD p 0=b at *
     go_wp2_with (at_builtin;refine wpList_append_own _ rfl _ _ 22 rfl base 5 i0 (.int .u8 0) 1 1 Tryz.underlying22 hi hz0 hz1 hz2 rfl (by decide) _ _ _ rfl (World.ownsRow.alloc (ae hqo) _) ⟨wr.heap.size,0,none⟩ 1 1 [.int .u8 (b.toNat:Int)] rfl rfl (fO _ _ rfl _ _) (one_byte _) (ae bd).1 (ae bd).2 (aB hbs _) ?_;intro v' x2 hown hgrow hnil;clear hnil);obtain⟨hq,hbox,hbel⟩:=ae HQ;have hb2:=oL (v:=.slice (some ⟨g,0,none⟩) (n+k) vc) hgrow (ae hqo) (Nat.le_refl _) hbs hbel;have hq2:=kU (ae hlen) hown;rw[←ae hst]at hq2;have hbox2:=((aU.refl 249 wr).alloc (.cells #[.int .u8 (b.toNat:Int)] 5)).grown (World.ownsRow.alloc (ae hqo) _) (by decide) hgrow _ _ _ hbox;clear hown hgrow hq hbox hbel;go_wp2;go_roundw
     case rel=>exact⟨k+1,by have:=ae HK;omega,by go_num,hq2,hbox2,hb2⟩
     case measure=>simp[intOf];omega
    ·
     obtain rfl:k=Y:=by omega
     go_wp2
     go_ret2
     exact⟨_,rfl,hq,hbel⟩
  ·
   have hfI:(n:Int)<(Z:Int):=by omega
   have hdz:decide (n<Z)=true:=decide_eq_true (by omega);have hB2:dT base w ((w.alloc (.cells #[.int .i64 (Y:Nat),.int .i64 (Z:Nat)] 249)).alloc (.cells #[.int .i64 (Y:Nat),.int .i64 (Z:Nat)] 249)):=hB1.alloc (by simp;omega) _;rw[decide_eq_false (fun x=>hf x.2),if_neg (fun x=>hf x.2)];clear hn h hm hl hf y1 z0 z1;go_enter Tryz.func279,Tryz.ntmps279;go_wp2_with fail;refine(ae HS).mono ?_;rintro e w' ⟨rfl,hw'⟩;rw[hw'];clear hw' w';go_wp2
   go_ret2
   exact⟨_,rfl,bG.nil _ _,hB2⟩
 ·
  have hlI:(300:Int)<(n:Int)+(Y:Int):=by omega
  rw[decide_eq_false (fun x=>hl x.1),if_neg (fun x=>hl x.1)];clear hn h hm hl y1 z0 z1;go_enter Tryz.func279,Tryz.ntmps279;go_wp2_with fail;refine(ae HS).mono ?_;rintro e w' ⟨rfl,hw'⟩;rw[hw'];clear hw' w';go_wp2
  go_ret2
  exact⟨_,rfl,bG.nil _ _,hB1⟩
theorem lzLay_any(base n cap:Nat)(a:Option Addr)(s:List UInt8)(t:Tk)(w:World)(hn:s.length=n)(h:bG w base (.slice a n cap) s)(hm:n<=100000)(hb:base<=w.heap.size)(ho:okT t=true) :
  Calls Tryz.prog 279 #[.slice a n cap,dY t] w fun e w'=>∃v,e = .returned (.tuple #[v,.bool (dE s t).isSome])/\bG w' base v ((dE s t).getD [])/\dT base w w':=by
 cases hB:isB t
 ·
  have hK:isK t=true:=by simpa[okT,hB]using ho
  rw[ms hK];have hK2:=hK;simp only[isK,Bool.and_eq_true,decide_eq_true_eq]at hK2;obtain⟨⟨_,hy⟩,hz⟩:=hK2;obtain⟨y1,y2⟩:=aD.1 hy;obtain⟨z1,z2⟩:=aD.1 hz;obtain⟨Y,hY⟩:=Int.eq_ofNat_of_zero_le (show 0<=t.2.1 by omega);obtain⟨Z,hZ⟩:=Int.eq_ofNat_of_zero_le (show 0<=t.2.2 by omega);rw[hY,hZ];have hs:nr t=Y:=by unfold nr;rw[hB,hY];simp
  refine(ma base n cap Y Z a s w hn h hm hb (by omega) (by omega) (by omega)).mono ?_;rintro e w' ⟨v,rfl,hq,hbel⟩;by_cases hc:n+Y<=300/\Z<=n
  · have hA:=iL (s:=s) ho (fun _=>by rw[hZ,hn];omega) (by rw[hs,hn];exact hc.1);rw[hB,hY,hZ]at hA;simp only[Bool.false_eq_true,if_false,Int.toNat_natCast]at hA;rw[if_pos hc]at hq;rw[hA,decide_eq_true hc];exact⟨v,rfl,hq,hbel⟩
  ·
   have hA:dE s t=none:=by
    by_cases hl:n+Y<=300
    · exact vp hK (by rw[hZ,hn];omega)
    · exact kR (by rw[hs,hn];omega)
   rw[if_neg hc]at hq;rw[hA,decide_eq_false hc];exact⟨v,rfl,hq,hbel⟩
 ·
  rw[jv hB];have hB2:=hB;simp only[isB,Bool.and_eq_true,decide_eq_true_eq]at hB2;obtain⟨x1,x2⟩:=aD.1 hB2.2.1;have hs:nr t=1:=by unfold nr;rw[hB];rfl
  refine(mc base n cap a s t.1 w hn h hm hb x1 x2).mono ?_;rintro e w' ⟨v,rfl,hq,hbel⟩;by_cases hc:n+1<=300
  · have hA:=iL (s:=s) ho (fun hk=>by rw[s9 hB]at hk;cases hk) (by rw[hs,hn];exact hc);rw[hB]at hA;simp only[if_true]at hA;rw[if_pos hc]at hq;rw[hA,decide_eq_true hc];exact⟨v,rfl,hq,hbel⟩
  · have hA:dE s t=none:=kR (by rw[hs,hn];omega);rw[if_neg hc]at hq;rw[hA,decide_eq_false hc];exact⟨v,rfl,hq,hbel⟩
end Go.Proofs.YtkdlcomfpffhhaaGreatDoor.U

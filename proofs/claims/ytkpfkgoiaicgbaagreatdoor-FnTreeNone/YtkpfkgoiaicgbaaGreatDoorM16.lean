/- Of what the proof is made: 3 texts, one behind the other. -/
import Derived.Test.YtkpfkgoiaicgbaaGreatDoorM9
import Derived.Test.YtkpfkgoiaicgbaaGreatDoorM6
import Derived.Laws.Bits64b
import Derived.Laws.CopyOwn
import Derived.Deep.RegionLaw
import Derived.Test.YtkpfkgoiaicgbaaGreatDoorM3
set_option linter.unusedSimpArgs false
set_option linter.unusedVariables false
set_option maxHeartbeats 4000000
namespace Go.Proofs.YtkpfkgoiaicgbaaGreatDoor
open Go.RowKit
theorem Fh(c:Nat)(hc:(c:Int)<=1000):bits .and .u64 (c:Int) 4294967295=(c:Int):=by
 have h:=Go.bits_and_u64_nat c 4294967295 (by omega) (by decide);have e:c &&& 4294967295=c:=by
  have:=Nat.and_two_pow_sub_one_eq_mod c 32;rw[show(2 ^ 32-1:Nat)=4294967295 by decide]at this;rw[this];omega
 rw[e]at h;exact h
theorem wrap_small(c:Nat)(hc:(c:Int)<=1000):IntKind.u64.wrap (c:Int)=(c:Int):=by
 simp only[IntKind.wrap,IntKind.signed,IntKind.bits];simp;omega
theorem DV(c:Nat)(w:World)(hc:(c:Int)<=1000) :
  Calls Tryz.prog 183 #[.int .u64 1,.int .u64 (c:Nat)] w fun e w'=>e = .returned (.tuple #[.int .u64 0,.int .u64 (c:Nat)])/\w'=w:=by
 have e1:bits .and .u64 1 4294967295=1:=by decide +kernel
 have e0:bits .and .u64 0 4294967295=0:=by decide +kernel
 have e2:=Fh c hc;have e3:(c:Int)/4294967296=0:=by omega
 have e4:=wrap_small c hc;go_enter Tryz.func183,Tryz.ntmps183;go_wp2
 go_ret2
 exact⟨rfl,rfl⟩
theorem mul_one(c:Nat)(w:World)(hc:(c:Int)<=1000) :
  Calls Tryz.prog 151 #[.int .u64 1,.int .u64 (c:Nat)] w fun e w'=>e = .returned (.tuple #[.int .u64 0,.int .u64 (c:Nat)])/\w'=w:=by
 go_enter Tryz.func151,Tryz.ntmps151;go_wp2_with (go_at_call 183;refine(DV c _ hc).mono ?_;rintro e w' ⟨rfl,hw⟩;rw[hw];clear hw)
 go_ret2
 exact⟨rfl,rfl⟩
theorem Ie{w:World}{base g n:Nat}{e:TypeId}{xs:List Value}(h:w.ownsRow base e 1 (.slice (some ⟨g,0,none⟩) n n) n xs):w.heap[g]?=some (.cells xs.toArray e (0,0)):=by
 rcases h.2 with⟨e,_⟩|⟨g',cap,cur,e',_,hg,_,_,hs,ht⟩
 · cases e
 · simp only[Value.slice.injEq,Option.some.injEq,Addr.mk.injEq,and_true]at e';obtain⟨rfl,-,rfl⟩:=e';rw[List.take_of_length_le (by simp;omega)]at ht;rw[hg,←ht]
theorem Gi{w:World}{base g n:Nat}{e:TypeId}{xs:List Value}(h:w.heap[g]?=some (.cells xs.toArray e (0,0)))(hn:xs.length=n)(hb:base<=g)(hm:n<=maxLen):w.ownsRow base e 1 (.slice (some ⟨g,0,none⟩) n n) n xs:=
 ⟨by omega,.inr ⟨g,n,xs.toArray,rfl,hb,h,Nat.le_refl _,hm,by simp;omega,by simp;exact List.take_of_length_le (by omega)⟩⟩
def gq(v:Int)(k c:Nat):List Value:=List.replicate k (.int .i64 v)++List.replicate (c-k) (.int .i64 0)
theorem ti(v:Int)(k c:Nat)(h:k<=c):(gq v k c).length=c:=by simp[gq];omega
theorem oT(v:Int)(k m c:Nat)(h:k+m<=c):splice (gq v k c) k (List.replicate m (.int .i64 v))=gq v (k+m) c:=by
 unfold splice gq;rw[List.take_append_of_le_length (by simp),List.take_of_length_le (by simp),List.drop_append,List.drop_of_length_le (by simp)];simp only[List.length_replicate,List.drop_replicate,List.nil_append];rw[←List.append_assoc,List.replicate_append_replicate]
 congr 2
 omega
theorem De{w:World}{g k c:Nat}{v:Int}{e:TypeId}(h:w.heap[g]?=some (.cells (gq v k c).toArray e (0,0)))(j:Nat)(hj:j<k):w.cell? ((⟨g,0,none⟩:Addr).add j)=some (.int .i64 v):=by
 have e1:(⟨g,0,none⟩:Addr).add j=⟨g,j,none⟩:=by unfold Addr.add;split<;>simp_all
 rw[e1];simp only[World.cell?,h,gq];simp[List.getElem?_append,hj]
theorem Iy(v:Int)(m j:Nat)(u:Value)(h:(List.replicate m (Value.int .i64 v))[j]?=some u):j<m/\u = .int .i64 v:=by
 rw[List.getElem?_replicate]at h;by_cases hj:j<m
 · rw[if_pos hj]at h;exact⟨hj,(Option.some.inj h).symm⟩
 · rw[if_neg hj]at h;cases h
theorem Iz(v:Int)(m:Nat):∀u∈List.replicate m (Value.int .i64 v),u.oneCell'=true:=by
 intro u hu;rw[(List.mem_replicate.1 hu).2];rfl
theorem DL(n:Nat):(madeCells (Value.int .i64 0).cells (n*1)).toList=gq 0 0 n:=by
 unfold gq;simp only[List.replicate_zero,List.nil_append,Nat.sub_zero,Nat.mul_one];apply List.ext_getElem?;intro i;by_cases hi:i<n
 · rw[List.getElem?_replicate,if_pos hi,List.getElem?_eq_getElem (by simpa[madeCells]using hi)];simp[madeCells,Value.cells,Nat.mod_one]
 · rw[List.getElem?_eq_none (by simp[madeCells];omega),List.getElem?_eq_none (by simp;omega)]
set_option maxRecDepth 100000 in
theorem my(v:Int)(c cap g o:Nat)(w:World)(hv:w.cell? ⟨g,o,none⟩=some (.int .i64 v))(h1:1<=c)(hc:(c:Int)<=1000) :
  Calls Tryz.prog 107 #[.slice (some ⟨g,o,none⟩) 1 cap,.int .i64 (c:Nat)] w fun e w'=>e = .returned (.slice (some ⟨w.heap.size,0,none⟩) c c)/\ar w' w.heap.size (.slice (some ⟨w.heap.size,0,none⟩) c c) (List.replicate c v)/\Below w.heap.size w w':=by
 obtain⟨i0,hi,hz0,hz1,hz2⟩:=info_parts Tryz.infoInt;have hg:g<w.heap.size:=World.block_lt_of_cell? _ _ hv;have hw1:=wrap_small c hc;have hzs:(Tryz.prog.info? 3).map (·.size)=some 1:=by kernel_rfl
 have hn1:([.int .i64 v]:List Value).length=Nat.min 1 c:=by show 1=min 1 c;omega
 have hf1:0+([.int .i64 v]:List Value).length<=(gq v 0 c).length:=by rw[ti v 0 c (by omega)];simpa using h1
 have ho1:∀u∈([.int .i64 v]:List Value),u.oneCell'=true:=by intro u hu;simp at hu;subst hu;rfl
 have HP:Hid (∀w1:World,w1.cell? ⟨g,o,none⟩=some (.int .i64 v)->∀(j:Nat) (u:Value),([.int .i64 v]:List Value)[j]?=some u->w1.cell? ((⟨g,o,none⟩:Addr).add j)=some u):=by
  intro w1 h j u hj
  match j,hj with
  | 0,hj=>simp at hj;subst hj;simpa[Addr.add]using h
 have Hn1:=af hn1;have Hf1:=af hf1;clear hn1 hf1;go_enter Tryz.func107,Tryz.ntmps107;go_wp2_with (first
  | (at_make;refine wpList_make_full _ rfl _ _ 154 rfl w.heap.size 3 i0 (.int .i64 0) 1 Tryz.underlying154 hi hz0 hz1 .i64 .i64 _ _ c rfl rfl rfl rfl (by rw[hz2];omega) (by unfold maxLen;omega) (Nat.le_refl _) ?_;intro w1 hown hgrow;rw[DL]at hown;have hblk:=Ie hown;have hb0:Below w.heap.size w w1:=(Below.refl _ _).grown hgrow (Nat.le_refl _) (fun k h=>by cases h);have hv1:=(hb0.cell (p:=⟨g,o,none⟩) hg).trans hv;clear hown hgrow)
  | (refine wpList_copy_splice rfl (.tmp 31) (.tmp 32) 154 154 rfl 3 Tryz.underlying154 hzs _ _ _ _ _ _ rfl rfl w.heap.size 0 (gq v 0 c) 3 hblk [.int .i64 v] (ae Hn1) (fun _=>⟨rfl,⟨g,o,none⟩,rfl,ae HP _ hv1⟩) (ae Hf1) ho1 w.heap.size w hb0 (Nat.le_refl _) ?_;intro w2 hg2 hb2)
  | (go_at_call 151;refine(mul_one c _ hc).mono ?_;rintro e w' ⟨rfl,hw⟩;rw[hw];clear hw))
 have hg2':w2.heap[w.heap.size]?=some (.cells (gq v 1 c).toArray 3 (0,0)):=by
  have:=ae hg2;rw[show([.int .i64 v]:List Value)=List.replicate 1 (.int .i64 v)from rfl,oT v 0 1 c (by omega)]at this;simpa using this
 clear hg2 hv1 hblk hb0
 go_loopw [8] (fun n wr=>∃k:Nat,1<=k/\k<=c/\n = .int .i64 k/\wr.heap[w.heap.size]?=some (.cells (gq v k c).toArray 3 (0,0))/\Below w.heap.size w wr) (fun n _=>c-(intOf n).toNat)
 case atStart=>exact⟨1,Nat.le_refl _,h1,rfl,hg2',hb2⟩
 case round=>
  obtain⟨k,hk1,hkc,rfl,hgk,hbk⟩:=hrel;clear hg2' hb2;by_cases hlt:k<c
  ·
   have hkI:(k:Int)<(c:Int):=by omega
   obtain⟨m,hm⟩:∃m,m=Nat.min k (c-k):=⟨_,rfl⟩;have hmk:m<=k:=by rw[hm];exact Nat.min_le_left _ _
   have hmc:k+m<=c:=by
    have:m<=c-k:=by rw[hm];exact Nat.min_le_right _ _
    omega
   have hm1:1<=m:=by
    have:m=min k (c-k):=hm;omega
   have Hn2:Hid ((List.replicate m (Value.int .i64 v)).length=Nat.min k (c-k)):=by show _=_;rw[List.length_replicate];exact hm
   have Hs2:Hid (∀(j:Nat) (u:Value),(List.replicate m (Value.int .i64 v))[j]?=some u->wr.cell? ((⟨w.heap.size,0,none⟩:Addr).add j)=some u):=by
    intro j u hj;obtain⟨h1,rfl⟩:=Iy v m j u hj;exact De hgk j (by omega)
   have Hf2:Hid (k+(List.replicate m (Value.int .i64 v)).length<=(gq v k c).length):=by show _<=_;rw[ti v k c (by omega),List.length_replicate];exact hmc
   have Hsp:=af (oT v k m c hmc);have HM:=af (And.intro hmk (And.intro hmc hm1));have hmI:(k:Int)+(m:Int)<=1000:=by omega
   have HGK:=af hgk;have HBK:=af hbk;have hck:¬ c=k:=by omega
   clear hm hmk hmc hm1 hgk hbk;go_wp2_with fail
   go_region_law (first|(refine step_copy_splice rfl (.tmp 41) (.tmp 44) 154 154 rfl 3 Tryz.underlying154 hzs (some ⟨w.heap.size,k,none⟩) (some ⟨w.heap.size,0,none⟩) (c-k) (c-k) k c (by simp[Act.eval,Act.put]) (by simp[Act.eval,Act.put]) w.heap.size k (gq v k c) 3 (ae HGK) (List.replicate m (.int .i64 v)) (ae Hn2) (fun _=>⟨rfl,⟨w.heap.size,0,none⟩,rfl,ae Hs2⟩) (ae Hf2) (Iz v m) w.heap.size w (ae HBK).drew (Nat.le_refl _) ?_;intro w3 hg3 hb3))
   rw[ae Hsp]at hg3;have HG3:=af (ae hg3);have HB3:=af hb3;clear hg3 hb3;have hwr:=ee ((k:Int)+(m:Int)) (by omega) (by omega);go_simp;go_wp2;go_roundw
   case rel=>exact⟨k+m,by omega,(ae HM).2.1,by go_num,ae HG3,ae HB3⟩
   case measure=>have:=ae HM;simp[intOf];omega
  ·
   have:k=c:=by omega
   subst this;have HO:Hid (ar wr w.heap.size (.slice (some ⟨w.heap.size,0,none⟩) k k) (List.replicate k v)):=by
    show World.ownsRow _ _ _ _ _ (List.replicate k v).length _;rw[List.length_replicate];refine Gi ?_ (by simp) (Nat.le_refl _) (by unfold maxLen;omega);rw[hgk];simp[gq]
   clear hgk;go_wp2;go_ret;exact⟨rfl,ae HO,hbk⟩
theorem JP{Q:List (List UInt8)}{x t:List UInt8}(h:Q++[x]=cG [] t):cG [] (t++[47])=(Q++[x])++[[]]:=by
 rw[k9,if_pos rfl,h]
theorem LL{Q:List (List UInt8)}{x t:List UInt8}{b:UInt8}(h:Q++[x]=cG [] t)(hb:¬ b=47):cG [] (t++[b])=Q++[x++[b]]:=by
 rw[k9,if_neg hb,←h];simp
theorem uI(s:ByteArray)(f k:Nat):(s.extract f k).data.toList=(s.data.toList.take k).drop f:=by
 rw[Lib.extract_data];simp[List.drop_take]
theorem JW(s:ByteArray)(f k:Nat)(hf:f<=k)(hk:k<s.size):(s.extract f (k+1)).data.toList=(s.extract f k).data.toList++[s[k]]:=by
 have hk':k<s.data.toList.length:=by simpa using hk
 rw[uI,uI,List.take_succ_eq_append_getElem hk',List.drop_append_of_le_length (by simp;omega)];rfl
theorem sg(s:ByteArray)(k:Nat)(hk:k<s.size):s.data.toList.take (k+1)=s.data.toList.take k++[s[k]]:=by
 have hk':k<s.data.toList.length:=by simpa using hk
 rw[List.take_succ_eq_append_getElem hk'];rfl
theorem JV(s:ByteArray)(k:Nat):(s.extract k k).data.toList=[]:=by
 rw[uI];simp
theorem IY{Q:List (List UInt8)}{x:List UInt8}(s:ByteArray)(k:Nat)(hk:k<s.size)(hb:s[k].toNat=47)(h:Q++[x]=cG [] (s.data.toList.take k)):cG [] (s.data.toList.take (k+1))=(Q++[x])++[[]]:=by
 have e:s[k]=47:=UInt8.toNat_inj.1 hb;rw[sg s k hk,e];exact JP h
theorem K9{Q:List (List UInt8)}(s:ByteArray)(f k:Nat)(hf:f<=k)(hk:k<s.size)(hb:¬ s[k].toNat=47)(h:Q++[(s.extract f k).data.toList]=cG [] (s.data.toList.take k)):cG [] (s.data.toList.take (k+1))=Q++[(s.extract f (k+1)).data.toList]:=by
 have e:¬ s[k]=47:=fun e=>hb (by rw[e];rfl);rw[sg s k hk,JW s f k hf hk];exact LL h e
set_option maxRecDepth 100000 in
theorem Dy(s:ByteArray)(w:World)(hs:s.size<=1048576) :
  Calls Tryz.prog 39 #[.string s,.int .u8 47,.int .i64 ((s.size:Int)+1)] w fun e w'=>∃v P,e = .returned v/\cP w' w.heap.size v P/\P.map (·.data.toList)=lL s.data.toList/\Below w.heap.size w w':=by
 obtain⟨i0,hi,hz0,hz1,hz2⟩:=info_parts Tryz.infoStr;have hsI:(s.size:Int)<=1048576:=by omega
 have HSZ:=af hs;have hq0:=af (cP.lit w w.heap.size (Nat.le_refl _));have hb0:Hid (Below w.heap.size w (w.alloc (.cells #[] 9))):=(Below.refl _ _).alloc (Nat.le_refl _) _;clear hs;go_enter Tryz.func39,Tryz.ntmps39;go_wp2_with fail
 go_loopw [7,8,9] (fun v fr i wr=>∃(k f:Nat) (P:List ByteArray),k<=s.size/\f<=k/\i = .int .i64 k/\fr = .int .i64 f/\cP wr w.heap.size v P/\P.length<=k/\P.map (·.data.toList)++[(s.extract f k).data.toList]=cG [] (s.data.toList.take k)/\Below w.heap.size w wr) (fun _ _ i _=>s.size-(intOf i).toNat)
 case atStart=>exact⟨0,0,[],Nat.zero_le _,Nat.le_refl _,rfl,rfl,ae hq0,Nat.le_refl _,by simp[cG],ae hb0⟩
 case round=>
  obtain⟨k,f,P,hk,hf,rfl,rfl,hq,hPl,hcut,hbel⟩:=hrel;obtain⟨m,hm⟩:∃m,P.length=m:=⟨_,rfl⟩;rw[hm]at hPl;have hmI:(m:Int)<=(k:Int):=by omega
  have hkI:(k:Int)<=(s.size:Int):=by omega
  have hfI:(f:Int)<=(k:Int):=by omega
  have HM:=af hm;obtain⟨va,vc,rfl⟩:=hq.formN hm;have hqo:=af (hq.own hm);have hbs:=hbel.size;have HBel:=af hbel;have HCut:=af hcut;have HF:=af hf;have HK:=af hk;have bd:Hid (m+1<=maxLen/\(m+1)*16<=140737488355328):=by have:=ae HSZ;show _/\_;unfold maxLen;omega
  have HPl:=af hPl;clear hq hbel hm hcut hPl;by_cases hlt:k<s.size
  ·
   have hltI:(k:Int)<(s.size:Int):=by omega
   have hmS:(m:Int)<(s.size:Int)+1:=by omega
   have HLt:=af hlt;by_cases hb:s[k].toNat=47
   ·
    have HE:=af (IY s k hlt hb (ae HCut));go_wp2_with (at_builtin;refine wpList_append_own _ rfl _ _ 72 rfl w.heap.size 9 i0 (.string ByteArray.empty) 1 16 Tryz.underlying72 hi hz0 hz1 hz2 rfl (by decide) _ _ _ rfl (World.ownsRow.alloc (ae hqo) _) ⟨wr.heap.size,0,none⟩ 1 1 [.string (s.extract f k)] rfl rfl (fQ _ _ rfl _ _) (BM _) (ae bd).1 (ae bd).2 (aB hbs _) ?_;intro v' x2 hown hgrow hnil;clear hnil);have hb2:=aK (v:=.slice va m vc) hgrow (ae hqo) (Nat.le_refl _) hbs (ae HBel);have hq2:=af (i7 (b:=s.extract f k) (ae HM) hown);have HB2:=af hb2;clear hown hgrow hb2;go_wp2;go_roundw
    case rel=>
     refine⟨k+1,k+1,P++[s.extract f k],by have:=ae HLt;omega,Nat.le_refl _,by go_num,by go_num,ae hq2,by have:=ae HM;have:=ae HPl;simp;omega,?_,ae HB2⟩;rw[ae HE,JV];simp
    case measure=>have:=ae HLt;simp[intOf];omega
   ·
    have hbI:¬ (s[k].toNat:Int)=47:=by omega
    have HE:=af (K9 s f k (ae HF) hlt hb (ae HCut));go_wp2;go_roundw
    case rel=>
     refine⟨k+1,f,P,by have:=ae HLt;omega,by have:=ae HF;omega,by go_num,rfl,?_,by have:=ae HM;have:=ae HPl;omega,?_,ae HBel⟩
     · have:=ae hqo;rw[←ae HM]at this ⊢;exact this
     · rw[ae HE]
    case measure=>have:=ae HLt;simp[intOf];omega
  ·
   obtain rfl:k=s.size:=by have:=ae HK;omega
   go_wp2_with (at_builtin;refine wpList_append_own _ rfl _ _ 72 rfl w.heap.size 9 i0 (.string ByteArray.empty) 1 16 Tryz.underlying72 hi hz0 hz1 hz2 rfl (by decide) _ _ _ rfl (World.ownsRow.alloc (ae hqo) _) ⟨wr.heap.size,0,none⟩ 1 1 [.string (s.extract f s.size)] rfl rfl (fQ _ _ rfl _ _) (BM _) (ae bd).1 (ae bd).2 (aB hbs _) ?_;intro v' x2 hown hgrow hnil;clear hnil);have hb2:=aK (v:=.slice va m vc) hgrow (ae hqo) (Nat.le_refl _) hbs (ae HBel);have hq2:=af (i7 (b:=s.extract f s.size) (ae HM) hown);have HB2:=af hb2;clear hown hgrow hb2;go_wp2;go_ret;refine⟨_,_,rfl,ae hq2,?_,ae HB2⟩;have hc:=ae HCut;have hl:s.data.toList.take s.size=s.data.toList:=List.take_of_length_le (by simp);rw[hl]at hc;rw[List.map_append];exact hc
theorem BK(b:UInt8):okB b=true<->(97<=b.toNat/\b.toNat<=122)∨(48<=b.toNat/\b.toNat<=57)∨b.toNat=46∨b.toNat=45∨b.toNat=95:=by
 simp[okB]
theorem ly{p:ByteArray}{m:Nat}(hm:m<p.size)(h:okB p[m]=false):dS p.data.toList=false:=by
 have:p.data.toList.all okB=false:=by
  rw[List.all_eq_false];refine⟨p[m],?_,by simp[h]⟩;have e:p[m]=p.data.toList[m]'(by simpa using hm):=rfl;rw[e];exact List.getElem_mem _
 simp[dS,this]
theorem oF{p:ByteArray}(h:inB (p.size:Int) 1 10=false):dS p.data.toList=false:=by
 have hb:=eC.1 h;have e:p.data.toList.length=p.size:=by simp
 have:(decide (1<=p.data.toList.length)&&decide (p.data.toList.length<=10))=false:=by rw[e];simp;omega
 simp only[dS];rw[←Bool.and_assoc (decide _),this];simp
theorem BU{p:ByteArray}(h:∀j (hj:j<p.size),okB p[j]=true)(hs:inB (p.size:Int) 1 10=true)(h1:(p.toList == [46])=false)(h2:(p.toList == [46,46])=false):dS p.data.toList=true:=by
 obtain⟨b0,b1⟩:=aD.1 hs;have e:p.data.toList.length=p.size:=by simp
 have a:p.data.toList.all okB=true:=by
  rw[List.all_eq_true];intro x hx;obtain⟨j,hj,rfl⟩:=List.getElem_of_mem hx;exact h j (by rw[←e];exact hj)
 rw[Lib.toList_data]at h1 h2;simp only[dS,a,h1,h2,e];simp;omega
theorem xT{p:ByteArray}(h:(p.toList == [46])=true):dS p.data.toList=false:=by
 rw[Lib.toList_data]at h;rw[beq_iff_eq.1 h];decide
theorem tP{p:ByteArray}(h:(p.toList == [46,46])=true):dS p.data.toList=false:=by
 rw[Lib.toList_data]at h;rw[beq_iff_eq.1 h];decide
theorem BI{s:ByteArray}{l:List ByteArray}(hl:l.map (·.data.toList)=lL s.data.toList){j:Nat}(hj:j<l.length)(h:dS (l.getD j ByteArray.empty).data.toList=false):f8 s.data.toList=false:=by
 have:(lL s.data.toList).all dS=false:=by
  rw[←hl,List.all_eq_false];refine⟨(l.getD j ByteArray.empty).data.toList,?_,by rw[h];simp⟩;rw[List.mem_map];exact⟨l.getD j ByteArray.empty,by simp[List.getD,hj],rfl⟩
 simp[f8,this]
theorem xD{s:ByteArray}{l:List ByteArray}(hl:l.map (·.data.toList)=lL s.data.toList)(h:∀j,j<l.length->dS (l.getD j ByteArray.empty).data.toList=true):f8 s.data.toList=decide (l.length<=4):=by
 have e:(lL s.data.toList).length=l.length:=by rw[←hl];simp
 have:(lL s.data.toList).all dS=true:=by
  rw[←hl,List.all_eq_true];intro x hx;rw[List.mem_map]at hx;obtain⟨y,hy,rfl⟩:=hx;obtain⟨j,hj,rfl⟩:=List.getElem_of_mem hy;have:=h j hj;simpa[List.getD,hj]using this
 simp[f8,this,e]
theorem lc:∀(l cur x:List UInt8),x∈cG cur l->x.length<=cur.length+l.length
 | [],cur,x,h=>by simp[cG]at h;subst h;simp
 | b :: l,cur,x,h=>by
  unfold cG at h
  split at h
  ·
   rcases List.mem_cons.1 h with rfl|h
   · simp
   · have:=lc l [] x h;simp at this ⊢;omega
  · have:=lc l (cur++[b]) x h;simp at this ⊢;omega
set_option maxRecDepth 100000 in
theorem sd(s:ByteArray)(w:World)(hs:s.size<=1048576) :
  Calls Tryz.prog 15 #[.string s] w fun e w'=>e = .returned (.bool (f8 s.data.toList))/\Below w.heap.size w w':=by
 have HSZ:=af hs;have hsI:(s.size:Int)<=1048576:=by omega
 clear hs;go_enter Tryz.func15,Tryz.ntmps15;go_wp2_with fail;refine(Dy s _ (ae HSZ)).mono ?_;rintro e x1 ⟨v,l,rfl,hq,hcut,hb1⟩;obtain⟨n,hn⟩:∃n,l.length=n:=⟨_,rfl⟩;obtain⟨va,vc,rfl⟩:=hq.formN hn;have hn0:0<n:=by
  have e:=congrArg List.length hcut;have:=Bf s.data.toList [];cases h:cG [] s.data.toList with
  | nil=>exact absurd h this
  | cons a t=>
   simp only[lL,h,List.length_map,List.length_cons]at e;omega
 have hnS:n<=s.size+1:=by
  have e:=congrArg List.length hcut;have:=mR s.data.toList [];simp only[List.length_map]at e;have h2:s.data.toList.length=s.size:=by simp
  unfold lL at e;omega
 have hnI:(n:Int)<=1048577:=by omega
 obtain⟨g,rfl,hg,hcl⟩:=hq.at hn hn0;have PL:Hid (∀k,k<n->(l.getD k ByteArray.empty).size<=1048576):=by
  intro k hk;have hmem:(l.getD k ByteArray.empty).data.toList∈lL s.data.toList:=by
   rw[←hcut,List.mem_map];exact⟨l.getD k ByteArray.empty,by simp[List.getD,hn,hk],rfl⟩
  have:=lc s.data.toList [] _ hmem;have e1:(l.getD k ByteArray.empty).data.toList.length=(l.getD k ByteArray.empty).size:=by simp
  have e2:s.data.toList.length=s.size:=by simp
  have:=ae HSZ;simp only[List.length_nil]at *
  omega
 have HC:=af hcl;have HB:=af hb1;have HNO:=af (fun j (hj:j<l.length)=>@BI s l hcut j hj);have HYES:=af (@xD s l hcut);rw[hn]at HNO HYES;clear hq hcut hcl hb1 hn0 hnS HSZ hsI;go_wp2_with fail
 go_loop [4,5,6] (fun i _ _=>∃k:Nat,k<=n/\i = .int .i64 k/\∀j,j<k->dS (l.getD j ByteArray.empty).data.toList=true) (fun i _ _=>n-(intOf i).toNat)
 case atStart=>exact⟨0,Nat.zero_le _,rfl,fun j hj=>absurd hj (by omega)⟩
 case round=>
  obtain⟨k,hk,rfl,hall⟩:=hrel;have HALL:=af hall;have HK:=af hk;clear hall;by_cases hkn:k<n
  ·
   have hkI:(k:Int)<(n:Int):=by omega
   have hc:=ae HC k hkn;have HNOk:=af (ae HNO k hkn);have HNX:Hid (dS (l.getD k ByteArray.empty).data.toList=true->∀j,j<k+1->dS (l.getD j ByteArray.empty).data.toList=true):=by
    intro e j hj;by_cases hjk:j=k
    · rw[hjk];exact e
    · exact ae HALL j (by omega)
   have HKN:=af hkn;clear hk HALL;have HPS:=af (ae PL k hkn);generalize l.getD k ByteArray.empty=p at *
   have hpS:(p.size:Int)<=9223372036854775807:=by
    have:=ae HPS;omega
   go_wp2_with fail
   go_loop [6] (fun q=>∃m:Nat,m<=p.size/\q = .int .i64 m/\∀j (hj:j<p.size),j<m->okB p[j]=true) (fun q=>p.size-(intOf q).toNat)
   case atStart=>exact⟨0,Nat.zero_le _,rfl,fun j _ hj=>absurd hj (by omega)⟩
   case round=>
    obtain⟨m,hm,rfl,hoks⟩:=hrel;have HOKS:=af hoks;have HMM:=af hm;clear hoks;by_cases hml:m<p.size
    ·
     have hmI:(m:Int)<(p.size:Int):=by omega
     have HML:=af hml;have HMX:Hid (okB p[m]=true->∀j (hj:j<p.size),j<m+1->okB p[j]=true):=by
      intro e j hj hjm;by_cases hjk:j=m
      · subst hjk;exact e
      · exact ae HOKS j hj (by omega)
     have hlo:(0:Int)<=(p[m].toNat:Int):=by omega
     have hhi:(p[m].toNat:Int)<256:=by have:=p[m].toNat_lt;omega
     clear hm HOKS HMM;cases hok:okB p[m]
     ·
      have hno:¬ ((97<=p[m].toNat/\p[m].toNat<=122)∨(48<=p[m].toNat/\p[m].toNat<=57)∨p[m].toNat=46∨p[m].toNat=45∨p[m].toNat=95):=fun e=>Bool.noConfusion (hok.symm.trans ((BK _).2 e));have e46:¬ (p[m].toNat:Int)=46:=by omega
      have e45:¬ (p[m].toNat:Int)=45:=by omega
      have e95:¬ (p[m].toNat:Int)=95:=by omega
      by_cases a1:(97:Int)<=(p[m].toNat:Int)
      ·
       have a2:¬ (p[m].toNat:Int)<=122:=by omega
       have a3:(48:Int)<=(p[m].toNat:Int):=by omega
       clear hno;have HP:=af (ae HNOk (ly (ae HML) hok));go_wp2;all_goals first
        | (go_ret;exact⟨ak (ae HP).symm,ae HB⟩)
        | (exfalso;rename_i hx;first|omega|(simp at hx;omega))
        | (exfalso;rename_i hx _ _;simp at hx;omega)
      ·
       by_cases a3:(48:Int)<=(p[m].toNat:Int)
       ·
        have a4:¬ (p[m].toNat:Int)<=57:=by omega
        clear hno;have HP:=af (ae HNOk (ly (ae HML) hok));go_wp2;all_goals first
         | (go_ret;exact⟨ak (ae HP).symm,ae HB⟩)
         | (exfalso;rename_i hx;first|omega|(simp at hx;omega))
         | (exfalso;rename_i hx _ _;simp at hx;omega)
       ·
        skip
        clear hno;have HP:=af (ae HNOk (ly (ae HML) hok));go_wp2;all_goals first
         | (go_ret;exact⟨ak (ae HP).symm,ae HB⟩)
         | (exfalso;rename_i hx;first|omega|(simp at hx;omega))
         | (exfalso;rename_i hx _ _;simp at hx;omega)
     ·
      have hyes:=(BK p[m]).1 hok;rcases hyes with⟨a1,a2⟩|⟨a1,a2⟩|a1|a1|a1
      ·
       have b1:(97:Int)<=(p[m].toNat:Int):=by omega
       have b2:(p[m].toNat:Int)<=122:=by omega
       clear a1 a2;go_wp2;all_goals first
        | (
          go_round
          case rel=>exact⟨m+1,by have:=ae HML;omega,by go_num,ae HMX hok⟩
          case measure=>have:=ae HML;simp[intOf];omega)
        | (exfalso;rename_i hx;first|omega|(simp at hx;omega))
        | (exfalso;rename_i hx _ _;simp at hx;omega)
      ·
       have b1:¬ (97:Int)<=(p[m].toNat:Int):=by omega
       have b2:(48:Int)<=(p[m].toNat:Int):=by omega
       have b3:(p[m].toNat:Int)<=57:=by omega
       clear a1 a2;go_wp2;all_goals first
        | (
          go_round
          case rel=>exact⟨m+1,by have:=ae HML;omega,by go_num,ae HMX hok⟩
          case measure=>have:=ae HML;simp[intOf];omega)
        | (exfalso;rename_i hx;first|omega|(simp at hx;omega))
        | (exfalso;rename_i hx _ _;simp at hx;omega)
      ·
       have b1:(p[m].toNat:Int)=46:=by omega
       clear a1;go_wp2;all_goals first
        | (
          go_round
          case rel=>exact⟨m+1,by have:=ae HML;omega,by go_num,ae HMX hok⟩
          case measure=>have:=ae HML;simp[intOf];omega)
        | (exfalso;rename_i hx;first|omega|(simp at hx;omega))
        | (exfalso;rename_i hx _ _;simp at hx;omega)
      ·
       have b1:(p[m].toNat:Int)=45:=by omega
       clear a1;go_wp2;all_goals first
        | (
          go_round
          case rel=>exact⟨m+1,by have:=ae HML;omega,by go_num,ae HMX hok⟩
          case measure=>have:=ae HML;simp[intOf];omega)
        | (exfalso;rename_i hx;first|omega|(simp at hx;omega))
        | (exfalso;rename_i hx _ _;simp at hx;omega)
      ·
       have b1:(p[m].toNat:Int)=95:=by omega
       clear a1;go_wp2;all_goals first
        | (
          go_round
          case rel=>exact⟨m+1,by have:=ae HML;omega,by go_num,ae HMX hok⟩
          case measure=>have:=ae HML;simp[intOf];omega)
        | (exfalso;rename_i hx;first|omega|(simp at hx;omega))
        | (exfalso;rename_i hx _ _;simp at hx;omega)
    ·
     obtain rfl:m=p.size:=by have:=ae HMM;omega
     have HOK2:Hid (∀j (hj:j<p.size),okB p[j]=true):=fun j hj=>ae HOKS j hj hj;clear HOKS hml hm;cases hz:inB (p.size:Int) 1 10
     · have HP:=af (ae HNOk (oF hz));go_wp2_with (go_at_call 40;refine(ni _ _ _ _).mono ?_;rintro e w9 ⟨rfl,hw9⟩;rw[hw9];clear hw9;rw[hz]);go_ret;exact⟨ak (ae HP).symm,ae HB⟩
     ·
      cases d1:(p.toList == [46])
      ·
       cases d2:(p.toList == [46,46])
       ·
        have HP:=af (ae HNX (BU (ae HOK2) hz d1 d2));go_wp2_with (go_at_call 40;refine(ni _ _ _ _).mono ?_;rintro e w9 ⟨rfl,hw9⟩;rw[hw9];clear hw9;rw[hz])
        go_round
        case rel=>exact⟨k+1,by have:=ae HKN;omega,by go_num,ae HP⟩
        case measure=>have:=ae HKN;simp[intOf];omega
       ·
        have HP:=af (ae HNOk (tP d2));have d2':p.toList=[46,46]:=by simpa using d2
        go_wp2_with (go_at_call 40;refine(ni _ _ _ _).mono ?_;rintro e w9 ⟨rfl,hw9⟩;rw[hw9];clear hw9;rw[hz]);go_ret;exact⟨ak (ae HP).symm,ae HB⟩
      ·
       have HP:=af (ae HNOk (xT d1));have d1':p.toList=[46]:=by simpa using d1
       go_wp2_with (go_at_call 40;refine(ni _ _ _ _).mono ?_;rintro e w9 ⟨rfl,hw9⟩;rw[hw9];clear hw9;rw[hz]);go_ret;exact⟨ak (ae HP).symm,ae HB⟩
  ·
   obtain rfl:k=n:=by omega
   have HY:=af (ae HYES (ae HALL));clear HALL HYES HNO HC;by_cases h4:k<=4
   ·
    have h4I:(k:Int)<=4:=by omega
    go_wp2;go_ret;exact⟨ak (by rw[ae HY];simp[h4]),ae HB⟩
   ·
    have h4I:¬ (k:Int)<=4:=by omega
    go_wp2;go_ret;exact⟨ak (by rw[ae HY];simp[h4]),ae HB⟩
end Go.Proofs.YtkpfkgoiaicgbaaGreatDoor

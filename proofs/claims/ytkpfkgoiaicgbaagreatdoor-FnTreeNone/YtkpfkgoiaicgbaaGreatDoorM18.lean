/- Of what the proof is made: 2 texts, one behind the other. -/
import Derived.Test.YtkpfkgoiaicgbaaGreatDoorTi1
import Derived.Test.YtkpfkgoiaicgbaaGreatDoorM9
set_option linter.unusedSimpArgs false
set_option linter.unusedVariables false
set_option maxHeartbeats 3200000
namespace Go.Proofs.YtkpfkgoiaicgbaaGreatDoor
open Go.RowKit
set_option maxRecDepth 100000 in
theorem ms(base n cap:Nat)(a:Option Addr)(s:List UInt8)(x:Int)(w:World)(hn:s.length=n)(h:bH w base (.slice a n cap) s)(hm:n<=100000)(hb:base<=w.heap.size)(x0:0<=x)(x1:x<=255) :
  Calls Tryz.prog 218 #[.slice a n cap,.iface 252 (.int .u8 x)] w fun e w'=>∃v,e = .returned (.tuple #[v,.bool (decide (n+1<=300))])/\bH w' base v (if n+1<=300 then s++[jZ x]else [])/\Below base w w':=by
 obtain⟨i0,hi,hz0,hz1,hz2⟩:=info_parts Tryz.infoU8;have hmI:(n:Int)<=100000:=by omega
 have m1:=rC;have t1:=jd;have HN:=af (And.intro hn hm);by_cases hl:n+1<=300
 ·
  obtain⟨N,hN⟩:∃N:Int,(n:Int)+1=N:=⟨_,rfl⟩;have hlI:¬ (300:Int)<N:=by omega
  have hdI:decide ((300:Int)<N)=false:=decide_eq_false hlI;have hbx:Hid (x=((jZ x).toNat:Int)):=(sX x0 x1).symm;have bd:Hid (n+1<=maxLen/\(n+1)*1<=140737488355328):=by show _/\_;unfold maxLen;omega
  have hqo:=af (h.own hn);rw[decide_eq_true hl,if_pos hl];clear hn h hm hl;go_enter Tryz.func218,Tryz.ntmps218;go_wp2_with fail;refine(eQ x w).mono ?_;rintro e w' ⟨rfl,hw'⟩;rw[hw'];clear hw' w';go_wp2_with (at_builtin;refine wpList_append_own _ rfl _ _ 22 rfl base 5 i0 (.int .u8 0) 1 1 Tryz.underlying22 hi hz0 hz1 hz2 rfl (by decide) _ _ _ rfl (World.ownsRow.alloc (ae hqo) _) ⟨w.heap.size,0,none⟩ 1 1 [.int .u8 x] rfl rfl (fQ _ _ rfl _ _) (one_byte _) (ae bd).1 (ae bd).2 (aB hb _) ?_;intro v' x2 hown hgrow hnil;clear hnil);have hb2:Below base w x2:=aK (v:=.slice a n cap) hgrow (ae hqo) (Nat.le_refl _) hb (Below.refl _ _);rw[ae hbx]at hown;have hq2:=kW (ae HN).1 hown;obtain⟨va,vc,rfl⟩:=hq2.form;clear hown hgrow;go_wp2
  go_ret2
  exact⟨_,rfl,hq2,hb2⟩
 ·
  obtain⟨N,hN⟩:∃N:Int,(n:Int)+1=N:=⟨_,rfl⟩;have hlI:(300:Int)<N:=by omega
  rw[decide_eq_false hl,if_neg hl];clear hn h hm hl;go_enter Tryz.func218,Tryz.ntmps218;go_wp2_with fail;refine(eQ x w).mono ?_;rintro e w' ⟨rfl,hw'⟩;rw[hw'];clear hw' w';go_wp2
  go_ret2
  exact⟨_,rfl,bH.nil _ _,Below.refl _ _⟩
set_option maxRecDepth 100000 in
theorem mr(base n cap Y Z:Nat)(a:Option Addr)(s:List UInt8)(w:World)(hn:s.length=n)(h:bH w base (.slice a n cap) s)(hm:n<=100000)(hb:base<=w.heap.size)(y1:Y<=60)(z0:1<=Z)(z1:Z<=250) :
  Calls Tryz.prog 218 #[.slice a n cap,.iface 254 (.agg #[.int .i64 (Y:Nat),.int .i64 (Z:Nat)])] w fun e w'=>∃v,e = .returned (.tuple #[v,.bool (decide (n+Y<=300/\Z<=n))])/\bH w' base v (if n+Y<=300/\Z<=n then rep s Z Y else [])/\Below base w w':=by
 obtain⟨i0,hi,hz0,hz1,hz2⟩:=info_parts Tryz.infoU8;have hmI:(n:Int)<=100000:=by omega
 have hYI:(Y:Int)<=60:=by omega
 have hZI:(Z:Int)<=250:=by omega
 have hZ1:(1:Int)<=(Z:Int):=by omega
 have m1:=rz;have t1:=kU;have t2:=jc;have HN:=af (And.intro hn (And.intro hm z0));have HS:=af (je (Y:Nat) (Z:Nat) w);have hB1:Below base w (w.alloc (.cells #[.int .i64 (Y:Nat),.int .i64 (Z:Nat)] 254)):=(Below.refl _ _).alloc hb _;by_cases hl:n+Y<=300
 ·
  have hlI:¬ (300:Int)<(n:Int)+(Y:Int):=by omega
  by_cases hf:Z<=n
  ·
   have hfI:¬ (n:Int)<(Z:Int):=by omega
   have hdz:decide (n<Z)=false:=decide_eq_false (by omega);rw[decide_eq_true ⟨hl,hf⟩,if_pos ⟨hl,hf⟩];have hF:=af hf;have hq0:bH ((w.alloc (.cells #[.int .i64 (Y:Nat),.int .i64 (Z:Nat)] 254)).alloc (.cells #[.int .i64 (Y:Nat),.int .i64 (Z:Nat)] 254)) base (.slice a n cap) s:=(h.later ((Below.refl w.heap.size w).alloc (Nat.le_refl _) _) (Nat.le_refl _)).later ((Below.refl _ _).alloc (Nat.le_refl _) _) (Nat.le_refl _);have hB2:Below base w ((w.alloc (.cells #[.int .i64 (Y:Nat),.int .i64 (Z:Nat)] 254)).alloc (.cells #[.int .i64 (Y:Nat),.int .i64 (Z:Nat)] 254)):=hB1.alloc (by simp;omega) _;have hbx:((w.alloc (.cells #[.int .i64 (Y:Nat),.int .i64 (Z:Nat)] 254)).alloc (.cells #[.int .i64 (Y:Nat),.int .i64 (Z:Nat)] 254)).heap[w.heap.size+1]?=some (Obj.cells #[.int .i64 (Y:Nat),.int .i64 (Z:Nat)] 254):=by
    have e:(w.alloc (.cells #[.int .i64 (Y:Nat),.int .i64 (Z:Nat)] 254)).heap.size=w.heap.size+1:=by simp
    rw[←e];exact alloc_at _ _
   have H0:=af (And.intro hq0 (And.intro hB2 hbx));clear hn h hm hl hf y1 z0 z1 hq0 hB2 hbx hB1;go_enter Tryz.func218,Tryz.ntmps218;go_wp2_with fail;refine(ae HS).mono ?_;rintro e w' ⟨rfl,hw'⟩;rw[hw'];clear hw' w';go_wp2_with fail
   go_loopw [0,32] (fun v i wr=>∃k:Nat,k<=Y/\i = .int .i64 k/\bH wr base v (rep s Z k)/\wr.heap[w.heap.size+1]?=some (Obj.cells #[.int .i64 (Y:Nat),.int .i64 (Z:Nat)] 254)/\Below base w wr) (fun _ i _=>Y-(intOf i).toNat)
   case atStart=>exact⟨0,Nat.zero_le _,rfl,(ae H0).1,(ae H0).2.2,(ae H0).2.1⟩
   case round=>
    obtain⟨k,hk,rfl,hq,hbox,hbel⟩:=hrel;obtain⟨c0,c1,hlw⟩:=ci hbox;have hlen:Hid ((rep s Z k).length=n+k):=by show _=_;rw[qe,(ae HN).1]
    obtain⟨va,vc,rfl⟩:=hq.formN (ae hlen);have HK:=af hk;by_cases hlt:k<Y
    ·
     obtain⟨g,rfl⟩:=hq.somes (by rw[ae hlen];have:=ae hF;have:=(ae HN).2.2;omega);obtain⟨p,hp⟩:∃p,n+k-Z=p:=⟨_,rfl⟩;have hpI:((n:Int)+(k:Int))-(Z:Int)=(p:Int):=by have:=ae hF;omega
     obtain⟨d0,_,_⟩:=hq.at (j:=p) (ae hlen) (by have:=ae hF;have:=(ae HN).2.2;omega);have hst:Hid (rep s Z (k+1)=rep s Z k++[(rep s Z k).getD p 0]):=by
      show _=_;simp only[rep];rw[ae hlen,hp]
     have hbs:=Nat.le_trans hb hbel.size;have bd:Hid (n+k+1<=maxLen/\(n+k+1)*1<=140737488355328):=by show _/\_;have:=(ae HN).2.1;unfold maxLen;omega
     have hpn:(p:Int)<(n:Int)+(k:Int):=by omega
     have HQ:=af (And.intro hq (And.intro hbox hbel));have hqo:=af (hq.own (ae hlen));clear hq hbox hbel hk hp;generalize (rep s Z k).getD p 0=b at *
     go_wp2_with (at_builtin;refine wpList_append_own _ rfl _ _ 22 rfl base 5 i0 (.int .u8 0) 1 1 Tryz.underlying22 hi hz0 hz1 hz2 rfl (by decide) _ _ _ rfl (World.ownsRow.alloc (ae hqo) _) ⟨wr.heap.size,0,none⟩ 1 1 [.int .u8 (b.toNat:Int)] rfl rfl (fQ _ _ rfl _ _) (one_byte _) (ae bd).1 (ae bd).2 (aB hbs _) ?_;intro v' x2 hown hgrow hnil;clear hnil);obtain⟨hq,hbox,hbel⟩:=ae HQ;have hb2:=aK (v:=.slice (some ⟨g,0,none⟩) (n+k) vc) hgrow (ae hqo) (Nat.le_refl _) hbs hbel;have hq2:=kW (ae hlen) hown;rw[←ae hst]at hq2;have hbox2:=((aV.refl 254 wr).alloc (.cells #[.int .u8 (b.toNat:Int)] 5)).grown (World.ownsRow.alloc (ae hqo) _) (by decide) hgrow _ _ _ hbox;clear hown hgrow hq hbox hbel;go_wp2;go_roundw
     case rel=>exact⟨k+1,by have:=ae HK;omega,by go_num,hq2,hbox2,hb2⟩
     case measure=>simp[intOf];omega
    ·
     obtain rfl:k=Y:=by omega
     go_wp2
     go_ret2
     exact⟨_,rfl,hq,hbel⟩
  ·
   have hfI:(n:Int)<(Z:Int):=by omega
   have hB2:Below base w ((w.alloc (.cells #[.int .i64 (Y:Nat),.int .i64 (Z:Nat)] 254)).alloc (.cells #[.int .i64 (Y:Nat),.int .i64 (Z:Nat)] 254)):=hB1.alloc (by simp;omega) _;rw[decide_eq_false (fun x=>hf x.2),if_neg (fun x=>hf x.2)];clear hn h hm hl hf y1 z0 z1;go_enter Tryz.func218,Tryz.ntmps218;go_wp2_with fail;refine(ae HS).mono ?_;rintro e w' ⟨rfl,hw'⟩;rw[hw'];clear hw' w';go_wp2
   go_ret2
   exact⟨_,rfl,bH.nil _ _,hB2⟩
 ·
  have hlI:(300:Int)<(n:Int)+(Y:Int):=by omega
  rw[decide_eq_false (fun x=>hl x.1),if_neg (fun x=>hl x.1)];clear hn h hm hl y1 z0 z1;go_enter Tryz.func218,Tryz.ntmps218;go_wp2_with fail;refine(ae HS).mono ?_;rintro e w' ⟨rfl,hw'⟩;rw[hw'];clear hw' w';go_wp2
  go_ret2
  exact⟨_,rfl,bH.nil _ _,hB1⟩
theorem lzLay_any(base n cap:Nat)(a:Option Addr)(s:List UInt8)(t:Tk)(w:World)(hn:s.length=n)(h:bH w base (.slice a n cap) s)(hm:n<=100000)(hb:base<=w.heap.size)(ho:okT t=true) :
  Calls Tryz.prog 218 #[.slice a n cap,dX t] w fun e w'=>∃v,e = .returned (.tuple #[v,.bool (dE s t).isSome])/\bH w' base v ((dE s t).getD [])/\Below base w w':=by
 cases hB:isB t
 ·
  have hK:isK t=true:=by simpa[okT,hB]using ho
  rw[mF hK];have hK2:=hK;simp only[isK,Bool.and_eq_true,decide_eq_true_eq]at hK2;obtain⟨⟨_,hy⟩,hz⟩:=hK2;obtain⟨y1,y2⟩:=aD.1 hy;obtain⟨z1,z2⟩:=aD.1 hz;obtain⟨Y,hY⟩:=Int.eq_ofNat_of_zero_le (show 0<=t.2.1 by omega);obtain⟨Z,hZ⟩:=Int.eq_ofNat_of_zero_le (show 0<=t.2.2 by omega);rw[hY,hZ];have hs:nJ t=Y:=by unfold nJ;rw[hB,hY];simp
  refine(mr base n cap Y Z a s w hn h hm hb (by omega) (by omega) (by omega)).mono ?_;rintro e w' ⟨v,rfl,hq,hbel⟩;by_cases hc:n+Y<=300/\Z<=n
  · have hA:=iS (s:=s) ho (fun _=>by rw[hZ,hn];omega) (by rw[hs,hn];exact hc.1);rw[hB,hY,hZ]at hA;simp only[Bool.false_eq_true,if_false,Int.toNat_natCast]at hA;rw[if_pos hc]at hq;rw[hA,decide_eq_true hc];exact⟨v,rfl,hq,hbel⟩
  ·
   have hA:dE s t=none:=by
    by_cases hl:n+Y<=300
    · exact vD hK (by rw[hZ,hn];omega)
    · exact kT (by rw[hs,hn];omega)
   rw[if_neg hc]at hq;rw[hA,decide_eq_false hc];exact⟨v,rfl,hq,hbel⟩
 ·
  rw[jB hB];have hB2:=hB;simp only[isB,Bool.and_eq_true,decide_eq_true_eq]at hB2;obtain⟨x1,x2⟩:=aD.1 hB2.2.1;have hs:nJ t=1:=by unfold nJ;rw[hB];rfl
  refine(ms base n cap a s t.1 w hn h hm hb x1 x2).mono ?_;rintro e w' ⟨v,rfl,hq,hbel⟩;by_cases hc:n+1<=300
  · have hA:=iS (s:=s) ho (fun hk=>by rw[tz hB]at hk;cases hk) (by rw[hs,hn];exact hc);rw[hB]at hA;simp only[if_true]at hA;rw[if_pos hc]at hq;rw[hA,decide_eq_true hc];exact⟨v,rfl,hq,hbel⟩
  · have hA:dE s t=none:=kT (by rw[hs,hn];omega);rw[if_neg hc]at hq;rw[hA,decide_eq_false hc];exact⟨v,rfl,hq,hbel⟩
end Go.Proofs.YtkpfkgoiaicgbaaGreatDoor
namespace Go.Proofs.YtkpfkgoiaicgbaaGreatDoor.U
open Go.Proofs.YtkpfkgoiaicgbaaGreatDoor
open Go.RowKit
set_option maxRecDepth 100000 in
theorem ms(base n cap:Nat)(a:Option Addr)(s:List UInt8)(x:Int)(w:World)(hn:s.length=n)(h:bH w base (.slice a n cap) s)(hm:n<=100000)(hb:base<=w.heap.size)(x0:0<=x)(x1:x<=255) :
  Calls Tryz.prog 218 #[.slice a n cap,.iface 252 (.int .u8 x)] w fun e w'=>∃v,e = .returned (.tuple #[v,.bool (decide (n+1<=300))])/\bH w' base v (if n+1<=300 then s++[jZ x]else [])/\dT base w w':=by
 obtain⟨i0,hi,hz0,hz1,hz2⟩:=info_parts Tryz.infoU8;have hmI:(n:Int)<=100000:=by omega
 have m1:=rC;have t1:=jd;have HN:=af (And.intro hn hm);by_cases hl:n+1<=300
 ·
  obtain⟨N,hN⟩:∃N:Int,(n:Int)+1=N:=⟨_,rfl⟩;have hlI:¬ (300:Int)<N:=by omega
  have hdI:decide ((300:Int)<N)=false:=decide_eq_false hlI;have hbx:Hid (x=((jZ x).toNat:Int)):=(sX x0 x1).symm;have bd:Hid (n+1<=maxLen/\(n+1)*1<=140737488355328):=by show _/\_;unfold maxLen;omega
  have hqo:=af (h.own hn);rw[decide_eq_true hl,if_pos hl];clear hn h hm hl;go_enter Tryz.func218,Tryz.ntmps218;go_wp2_with fail;refine(eQ x w).mono ?_;rintro e w' ⟨rfl,hw'⟩;rw[hw'];clear hw' w';go_wp2_with (at_builtin;refine wpList_append_own _ rfl _ _ 22 rfl base 5 i0 (.int .u8 0) 1 1 Tryz.underlying22 hi hz0 hz1 hz2 rfl (by decide) _ _ _ rfl (World.ownsRow.alloc (ae hqo) _) ⟨w.heap.size,0,none⟩ 1 1 [.int .u8 x] rfl rfl (fQ _ _ rfl _ _) (one_byte _) (ae bd).1 (ae bd).2 (aB hb _) ?_;intro v' x2 hown hgrow hnil;clear hnil);have hb2:dT base w x2:=oX (v:=.slice a n cap) hgrow (ae hqo) (Nat.le_refl _) hb (dT.refl _ _);rw[ae hbx]at hown;have hq2:=kW (ae HN).1 hown;obtain⟨va,vc,rfl⟩:=hq2.form;clear hown hgrow;go_wp2
  go_ret2
  exact⟨_,rfl,hq2,hb2⟩
 ·
  obtain⟨N,hN⟩:∃N:Int,(n:Int)+1=N:=⟨_,rfl⟩;have hlI:(300:Int)<N:=by omega
  rw[decide_eq_false hl,if_neg hl];clear hn h hm hl;go_enter Tryz.func218,Tryz.ntmps218;go_wp2_with fail;refine(eQ x w).mono ?_;rintro e w' ⟨rfl,hw'⟩;rw[hw'];clear hw' w';go_wp2
  go_ret2
  exact⟨_,rfl,bH.nil _ _,dT.refl _ _⟩
set_option maxRecDepth 100000 in
theorem mr(base n cap Y Z:Nat)(a:Option Addr)(s:List UInt8)(w:World)(hn:s.length=n)(h:bH w base (.slice a n cap) s)(hm:n<=100000)(hb:base<=w.heap.size)(y1:Y<=60)(z0:1<=Z)(z1:Z<=250) :
  Calls Tryz.prog 218 #[.slice a n cap,.iface 254 (.agg #[.int .i64 (Y:Nat),.int .i64 (Z:Nat)])] w fun e w'=>∃v,e = .returned (.tuple #[v,.bool (decide (n+Y<=300/\Z<=n))])/\bH w' base v (if n+Y<=300/\Z<=n then rep s Z Y else [])/\dT base w w':=by
 obtain⟨i0,hi,hz0,hz1,hz2⟩:=info_parts Tryz.infoU8;have hmI:(n:Int)<=100000:=by omega
 have hYI:(Y:Int)<=60:=by omega
 have hZI:(Z:Int)<=250:=by omega
 have hZ1:(1:Int)<=(Z:Int):=by omega
 have m1:=rz;have t1:=kU;have t2:=jc;have HN:=af (And.intro hn (And.intro hm z0));have HS:=af (je (Y:Nat) (Z:Nat) w);have hB1:dT base w (w.alloc (.cells #[.int .i64 (Y:Nat),.int .i64 (Z:Nat)] 254)):=(dT.refl _ _).alloc hb _;by_cases hl:n+Y<=300
 ·
  have hlI:¬ (300:Int)<(n:Int)+(Y:Int):=by omega
  by_cases hf:Z<=n
  ·
   have hfI:¬ (n:Int)<(Z:Int):=by omega
   have hdz:decide (n<Z)=false:=decide_eq_false (by omega);rw[decide_eq_true ⟨hl,hf⟩,if_pos ⟨hl,hf⟩];have hF:=af hf;have hq0:bH ((w.alloc (.cells #[.int .i64 (Y:Nat),.int .i64 (Z:Nat)] 254)).alloc (.cells #[.int .i64 (Y:Nat),.int .i64 (Z:Nat)] 254)) base (.slice a n cap) s:=(h.later ((Below.refl w.heap.size w).alloc (Nat.le_refl _) _) (Nat.le_refl _)).later ((Below.refl _ _).alloc (Nat.le_refl _) _) (Nat.le_refl _);have hB2:dT base w ((w.alloc (.cells #[.int .i64 (Y:Nat),.int .i64 (Z:Nat)] 254)).alloc (.cells #[.int .i64 (Y:Nat),.int .i64 (Z:Nat)] 254)):=hB1.alloc (by simp;omega) _;have hbx:((w.alloc (.cells #[.int .i64 (Y:Nat),.int .i64 (Z:Nat)] 254)).alloc (.cells #[.int .i64 (Y:Nat),.int .i64 (Z:Nat)] 254)).heap[w.heap.size+1]?=some (Obj.cells #[.int .i64 (Y:Nat),.int .i64 (Z:Nat)] 254):=by
    have e:(w.alloc (.cells #[.int .i64 (Y:Nat),.int .i64 (Z:Nat)] 254)).heap.size=w.heap.size+1:=by simp
    rw[←e];exact alloc_at _ _
   have H0:=af (And.intro hq0 (And.intro hB2 hbx));clear hn h hm hl hf y1 z0 z1 hq0 hB2 hbx hB1;go_enter Tryz.func218,Tryz.ntmps218;go_wp2_with fail;refine(ae HS).mono ?_;rintro e w' ⟨rfl,hw'⟩;rw[hw'];clear hw' w';go_wp2_with fail
   go_loopw [0,32] (fun v i wr=>∃k:Nat,k<=Y/\i = .int .i64 k/\bH wr base v (rep s Z k)/\wr.heap[w.heap.size+1]?=some (Obj.cells #[.int .i64 (Y:Nat),.int .i64 (Z:Nat)] 254)/\dT base w wr) (fun _ i _=>Y-(intOf i).toNat)
   case atStart=>exact⟨0,Nat.zero_le _,rfl,(ae H0).1,(ae H0).2.2,(ae H0).2.1⟩
   case round=>
    obtain⟨k,hk,rfl,hq,hbox,hbel⟩:=hrel;obtain⟨c0,c1,hlw⟩:=ci hbox;have hlen:Hid ((rep s Z k).length=n+k):=by show _=_;rw[qe,(ae HN).1]
    obtain⟨va,vc,rfl⟩:=hq.formN (ae hlen);have HK:=af hk;by_cases hlt:k<Y
    ·
     obtain⟨g,rfl⟩:=hq.somes (by rw[ae hlen];have:=ae hF;have:=(ae HN).2.2;omega);obtain⟨p,hp⟩:∃p,n+k-Z=p:=⟨_,rfl⟩;have hpI:((n:Int)+(k:Int))-(Z:Int)=(p:Int):=by have:=ae hF;omega
     obtain⟨d0,_,_⟩:=hq.at (j:=p) (ae hlen) (by have:=ae hF;have:=(ae HN).2.2;omega);have hst:Hid (rep s Z (k+1)=rep s Z k++[(rep s Z k).getD p 0]):=by
      show _=_;simp only[rep];rw[ae hlen,hp]
     have hbs:=Nat.le_trans hb hbel.size;have bd:Hid (n+k+1<=maxLen/\(n+k+1)*1<=140737488355328):=by show _/\_;have:=(ae HN).2.1;unfold maxLen;omega
     have hpn:(p:Int)<(n:Int)+(k:Int):=by omega
     have HQ:=af (And.intro hq (And.intro hbox hbel));have hqo:=af (hq.own (ae hlen));have Hp:=af hp;clear hq hbox hbel hk hp;generalize (rep s Z k).getD p 0=b at *
     go_wp2_with (at_builtin;refine wpList_append_own _ rfl _ _ 22 rfl base 5 i0 (.int .u8 0) 1 1 Tryz.underlying22 hi hz0 hz1 hz2 rfl (by decide) _ _ _ rfl (World.ownsRow.alloc (ae hqo) _) ⟨wr.heap.size,0,none⟩ 1 1 [.int .u8 (b.toNat:Int)] rfl rfl (fQ _ _ rfl _ _) (one_byte _) (ae bd).1 (ae bd).2 (aB hbs _) ?_;intro v' x2 hown hgrow hnil;clear hnil);obtain⟨hq,hbox,hbel⟩:=ae HQ;have hb2:=oX (v:=.slice (some ⟨g,0,none⟩) (n+k) vc) hgrow (ae hqo) (Nat.le_refl _) hbs hbel;have hq2:=kW (ae hlen) hown;rw[←ae hst]at hq2;have hbox2:=((aV.refl 254 wr).alloc (.cells #[.int .u8 (b.toNat:Int)] 5)).grown (World.ownsRow.alloc (ae hqo) _) (by decide) hgrow _ _ _ hbox;clear hown hgrow hq hbox hbel;go_wp2;go_roundw
     case rel=>exact⟨k+1,by have:=ae HK;omega,by go_num,hq2,hbox2,hb2⟩
     case measure=>simp[intOf];omega
    ·
     obtain rfl:k=Y:=by omega
     go_wp2
     go_ret2
     exact⟨_,rfl,hq,hbel⟩
  ·
   have hfI:(n:Int)<(Z:Int):=by omega
   have hdz:decide (n<Z)=true:=decide_eq_true (by omega);have hB2:dT base w ((w.alloc (.cells #[.int .i64 (Y:Nat),.int .i64 (Z:Nat)] 254)).alloc (.cells #[.int .i64 (Y:Nat),.int .i64 (Z:Nat)] 254)):=hB1.alloc (by simp;omega) _;rw[decide_eq_false (fun x=>hf x.2),if_neg (fun x=>hf x.2)];clear hn h hm hl hf y1 z0 z1;go_enter Tryz.func218,Tryz.ntmps218;go_wp2_with fail;refine(ae HS).mono ?_;rintro e w' ⟨rfl,hw'⟩;rw[hw'];clear hw' w';go_wp2
   go_ret2
   exact⟨_,rfl,bH.nil _ _,hB2⟩
 ·
  have hlI:(300:Int)<(n:Int)+(Y:Int):=by omega
  rw[decide_eq_false (fun x=>hl x.1),if_neg (fun x=>hl x.1)];clear hn h hm hl y1 z0 z1;go_enter Tryz.func218,Tryz.ntmps218;go_wp2_with fail;refine(ae HS).mono ?_;rintro e w' ⟨rfl,hw'⟩;rw[hw'];clear hw' w';go_wp2
  go_ret2
  exact⟨_,rfl,bH.nil _ _,hB1⟩
theorem lzLay_any(base n cap:Nat)(a:Option Addr)(s:List UInt8)(t:Tk)(w:World)(hn:s.length=n)(h:bH w base (.slice a n cap) s)(hm:n<=100000)(hb:base<=w.heap.size)(ho:okT t=true) :
  Calls Tryz.prog 218 #[.slice a n cap,dX t] w fun e w'=>∃v,e = .returned (.tuple #[v,.bool (dE s t).isSome])/\bH w' base v ((dE s t).getD [])/\dT base w w':=by
 cases hB:isB t
 ·
  have hK:isK t=true:=by simpa[okT,hB]using ho
  rw[mF hK];have hK2:=hK;simp only[isK,Bool.and_eq_true,decide_eq_true_eq]at hK2;obtain⟨⟨_,hy⟩,hz⟩:=hK2;obtain⟨y1,y2⟩:=aD.1 hy;obtain⟨z1,z2⟩:=aD.1 hz;obtain⟨Y,hY⟩:=Int.eq_ofNat_of_zero_le (show 0<=t.2.1 by omega);obtain⟨Z,hZ⟩:=Int.eq_ofNat_of_zero_le (show 0<=t.2.2 by omega);rw[hY,hZ];have hs:nJ t=Y:=by unfold nJ;rw[hB,hY];simp
  refine(mr base n cap Y Z a s w hn h hm hb (by omega) (by omega) (by omega)).mono ?_;rintro e w' ⟨v,rfl,hq,hbel⟩;by_cases hc:n+Y<=300/\Z<=n
  · have hA:=iS (s:=s) ho (fun _=>by rw[hZ,hn];omega) (by rw[hs,hn];exact hc.1);rw[hB,hY,hZ]at hA;simp only[Bool.false_eq_true,if_false,Int.toNat_natCast]at hA;rw[if_pos hc]at hq;rw[hA,decide_eq_true hc];exact⟨v,rfl,hq,hbel⟩
  ·
   have hA:dE s t=none:=by
    by_cases hl:n+Y<=300
    · exact vD hK (by rw[hZ,hn];omega)
    · exact kT (by rw[hs,hn];omega)
   rw[if_neg hc]at hq;rw[hA,decide_eq_false hc];exact⟨v,rfl,hq,hbel⟩
 ·
  rw[jB hB];have hB2:=hB;simp only[isB,Bool.and_eq_true,decide_eq_true_eq]at hB2;obtain⟨x1,x2⟩:=aD.1 hB2.2.1;have hs:nJ t=1:=by unfold nJ;rw[hB];rfl
  refine(ms base n cap a s t.1 w hn h hm hb x1 x2).mono ?_;rintro e w' ⟨v,rfl,hq,hbel⟩;by_cases hc:n+1<=300
  · have hA:=iS (s:=s) ho (fun hk=>by rw[tz hB]at hk;cases hk) (by rw[hs,hn];exact hc);rw[hB]at hA;simp only[if_true]at hA;rw[if_pos hc]at hq;rw[hA,decide_eq_true hc];exact⟨v,rfl,hq,hbel⟩
  · have hA:dE s t=none:=kT (by rw[hs,hn];omega);rw[if_neg hc]at hq;rw[hA,decide_eq_false hc];exact⟨v,rfl,hq,hbel⟩
end Go.Proofs.YtkpfkgoiaicgbaaGreatDoor.U

/- Of what the proof is made: 2 texts, one behind the other. -/
import Derived.Test.YtfhdadkcophoaaaGreatDoorTi1
import Derived.Test.YtfhdadkcophoaaaGreatDoorM9
set_option linter.unusedSimpArgs false
set_option linter.unusedVariables false
set_option maxHeartbeats 3200000
namespace Go.Proofs.YtfhdadkcophoaaaGreatDoor
open Go.RowKit
set_option maxRecDepth 100000 in
theorem mh(base n cap:Nat)(a:Option Addr)(s:List UInt8)(x:Int)(w:World)(hn:s.length=n)(h:bG w base (.slice a n cap) s)(hm:n<=100000)(hb:base<=w.heap.size)(x0:0<=x)(x1:x<=255) :
  Calls Tryz.prog 205 #[.slice a n cap,.iface 213 (.int .u8 x)] w fun e w'=>∃v,e = .returned (.tuple #[v,.bool (decide (n+1<=300))])/\bG w' base v (if n+1<=300 then s++[j9 x]else [])/\Below base w w':=by
 obtain⟨i0,hi,hz0,hz1,hz2⟩:=a0r Tryz.infoU8;have hmI:(n:Int)<=100000:=by omega
 have m1:=rh;have t1:=jk;have HN:=af (a0c hn hm);by_cases hl:n+1<=300
 ·
  obtain⟨N,hN⟩:∃N:Int,(n:Int)+1=N:=⟨_,rfl⟩;have hlI:¬ (300:Int)<N:=by omega
  have hdI:decide ((300:Int)<N)=false:=a0n hlI;have hbx:Hid (x=((j9 x).toNat:Int)):=(sF x0 x1).symm;have bd:Hid (n+1<=maxLen/\(n+1)*1<=140737488355328):=by show _/\_;unfold maxLen;omega
  have hqo:=af (h.own hn);rw[a0E hl,a0d hl];clear hn h hm hl;go_enter a1z,a1A;go_wp2_with fail;refine(eQ x w).mono ?_;rintro e w' ⟨rfl,hw'⟩;rw[hw'];clear hw' w';go_wp2_with (at_builtin;refine a0F _ rfl _ _ 22 rfl base 5 i0 (.int .u8 0) 1 1 a1b hi hz0 hz1 hz2 rfl (by decide) _ _ _ rfl (a0m (ae hqo) _) ⟨w.heap.size,0,none⟩ 1 1 [.int .u8 x] rfl rfl (fU _ _ rfl _ _) (one_byte _) (ae bd).1 (ae bd).2 (ay hb _) ?_;intro v' x2 hown hgrow hnil;clear hnil);have hb2:Below base w x2:=aK (v:=.slice a n cap) hgrow (ae hqo) (a0a _) hb (a0b _ _);rw[ae hbx]at hown;have hq2:=k9 (ae HN).1 hown;obtain⟨va,vc,rfl⟩:=hq2.form;clear hown hgrow;go_wp2
  go_ret2
  exact⟨_,rfl,hq2,hb2⟩
 ·
  obtain⟨N,hN⟩:∃N:Int,(n:Int)+1=N:=⟨_,rfl⟩;have hlI:(300:Int)<N:=by omega
  rw[a0n hl,a0e hl];clear hn h hm hl;go_enter a1z,a1A;go_wp2_with fail;refine(eQ x w).mono ?_;rintro e w' ⟨rfl,hw'⟩;rw[hw'];clear hw' w';go_wp2
  go_ret2
  exact⟨_,rfl,bG.nil _ _,a0b _ _⟩
set_option maxRecDepth 100000 in
theorem mg(base n cap Y Z:Nat)(a:Option Addr)(s:List UInt8)(w:World)(hn:s.length=n)(h:bG w base (.slice a n cap) s)(hm:n<=100000)(hb:base<=w.heap.size)(y1:Y<=60)(z0:1<=Z)(z1:Z<=250) :
  Calls Tryz.prog 205 #[.slice a n cap,.iface 215 (.agg #[.int .i64 (Y:Nat),.int .i64 (Z:Nat)])] w fun e w'=>∃v,e = .returned (.tuple #[v,.bool (decide (n+Y<=300/\Z<=n))])/\bG w' base v (if n+Y<=300/\Z<=n then rep s Z Y else [])/\Below base w w':=by
 obtain⟨i0,hi,hz0,hz1,hz2⟩:=a0r Tryz.infoU8;have hmI:(n:Int)<=100000:=by omega
 have hYI:(Y:Int)<=60:=by omega
 have hZI:(Z:Int)<=250:=by omega
 have hZ1:(1:Int)<=(Z:Int):=by omega
 have m1:=re;have t1:=kY;have t2:=jj;have HN:=af (a0c hn (a0c hm z0));have HS:=af (jl (Y:Nat) (Z:Nat) w);have hB1:Below base w (w.alloc (.cells #[.int .i64 (Y:Nat),.int .i64 (Z:Nat)] 215)):=(a0b _ _).alloc hb _;by_cases hl:n+Y<=300
 ·
  have hlI:¬ (300:Int)<(n:Int)+(Y:Int):=by omega
  by_cases hf:Z<=n
  ·
   have hfI:¬ (n:Int)<(Z:Int):=by omega
   have hdz:decide (n<Z)=false:=a0n (by omega);rw[a0E ⟨hl,hf⟩,a0d ⟨hl,hf⟩];have hF:=af hf;have hq0:bG ((w.alloc (.cells #[.int .i64 (Y:Nat),.int .i64 (Z:Nat)] 215)).alloc (.cells #[.int .i64 (Y:Nat),.int .i64 (Z:Nat)] 215)) base (.slice a n cap) s:=(h.later ((a0b w.heap.size w).alloc (a0a _) _) (a0a _)).later ((a0b _ _).alloc (a0a _) _) (a0a _);have hB2:Below base w ((w.alloc (.cells #[.int .i64 (Y:Nat),.int .i64 (Z:Nat)] 215)).alloc (.cells #[.int .i64 (Y:Nat),.int .i64 (Z:Nat)] 215)):=hB1.alloc (by simp;omega) _;have hbx:((w.alloc (.cells #[.int .i64 (Y:Nat),.int .i64 (Z:Nat)] 215)).alloc (.cells #[.int .i64 (Y:Nat),.int .i64 (Z:Nat)] 215)).heap[w.heap.size+1]?=some (Obj.cells #[.int .i64 (Y:Nat),.int .i64 (Z:Nat)] 215):=by
    have e:(w.alloc (.cells #[.int .i64 (Y:Nat),.int .i64 (Z:Nat)] 215)).heap.size=w.heap.size+1:=by simp
    rw[←e];exact alloc_at _ _
   have H0:=af (a0c hq0 (a0c hB2 hbx));clear hn h hm hl hf y1 z0 z1 hq0 hB2 hbx hB1;go_enter a1z,a1A;go_wp2_with fail;refine(ae HS).mono ?_;rintro e w' ⟨rfl,hw'⟩;rw[hw'];clear hw' w';go_wp2_with fail
   go_loopw [0,32] (fun v i wr=>∃k:Nat,k<=Y/\i = .int .i64 k/\bG wr base v (rep s Z k)/\wr.heap[w.heap.size+1]?=some (Obj.cells #[.int .i64 (Y:Nat),.int .i64 (Z:Nat)] 215)/\Below base w wr) (fun _ i _=>Y-(intOf i).toNat)
   case atStart=>exact⟨0,a0h _,rfl,(ae H0).1,(ae H0).2.2,(ae H0).2.1⟩
   case round=>
    obtain⟨k,hk,rfl,hq,hbox,hbel⟩:=hrel;obtain⟨c0,c1,hlw⟩:=cn hbox;have hlen:Hid ((rep s Z k).length=n+k):=by show _=_;rw[pJ,(ae HN).1]
    obtain⟨va,vc,rfl⟩:=hq.formN (ae hlen);have HK:=af hk;by_cases hlt:k<Y
    ·
     obtain⟨g,rfl⟩:=hq.somes (by rw[ae hlen];have:=ae hF;have:=(ae HN).2.2;omega);obtain⟨p,hp⟩:∃p,n+k-Z=p:=⟨_,rfl⟩;have hpI:((n:Int)+(k:Int))-(Z:Int)=(p:Int):=by have:=ae hF;omega
     obtain⟨d0,_,_⟩:=hq.at (j:=p) (ae hlen) (by have:=ae hF;have:=(ae HN).2.2;omega);have hst:Hid (rep s Z (k+1)=rep s Z k++[(rep s Z k).getD p 0]):=by
      show _=_;simp only[rep];rw[ae hlen,hp]
     have hbs:=a0D hb hbel.size;have bd:Hid (n+k+1<=maxLen/\(n+k+1)*1<=140737488355328):=by show _/\_;have:=(ae HN).2.1;unfold maxLen;omega
     have hpn:(p:Int)<(n:Int)+(k:Int):=by omega
     have HQ:=af (a0c hq (a0c hbox hbel));have hqo:=af (hq.own (ae hlen));clear hq hbox hbel hk hp;generalize (rep s Z k).getD p 0=b at *
     go_wp2_with (at_builtin;refine a0F _ rfl _ _ 22 rfl base 5 i0 (.int .u8 0) 1 1 a1b hi hz0 hz1 hz2 rfl (by decide) _ _ _ rfl (a0m (ae hqo) _) ⟨wr.heap.size,0,none⟩ 1 1 [.int .u8 (b.toNat:Int)] rfl rfl (fU _ _ rfl _ _) (one_byte _) (ae bd).1 (ae bd).2 (ay hbs _) ?_;intro v' x2 hown hgrow hnil;clear hnil);obtain⟨hq,hbox,hbel⟩:=ae HQ;have hb2:=aK (v:=.slice (some ⟨g,0,none⟩) (n+k) vc) hgrow (ae hqo) (a0a _) hbs hbel;have hq2:=k9 (ae hlen) hown;rw[←ae hst]at hq2;have hbox2:=((aU.refl 215 wr).alloc (.cells #[.int .u8 (b.toNat:Int)] 5)).grown (a0m (ae hqo) _) (by decide) hgrow _ _ _ hbox;clear hown hgrow hq hbox hbel;go_wp2;go_roundw
     case rel=>exact⟨k+1,by have:=ae HK;omega,by go_num,hq2,hbox2,hb2⟩
     case measure=>simp[intOf];omega
    ·
     obtain rfl:k=Y:=by omega
     go_wp2
     go_ret2
     exact⟨_,rfl,hq,hbel⟩
  ·
   have hfI:(n:Int)<(Z:Int):=by omega
   have hB2:Below base w ((w.alloc (.cells #[.int .i64 (Y:Nat),.int .i64 (Z:Nat)] 215)).alloc (.cells #[.int .i64 (Y:Nat),.int .i64 (Z:Nat)] 215)):=hB1.alloc (by simp;omega) _;rw[a0n (fun x=>hf x.2),a0e (fun x=>hf x.2)];clear hn h hm hl hf y1 z0 z1;go_enter a1z,a1A;go_wp2_with fail;refine(ae HS).mono ?_;rintro e w' ⟨rfl,hw'⟩;rw[hw'];clear hw' w';go_wp2
   go_ret2
   exact⟨_,rfl,bG.nil _ _,hB2⟩
 ·
  have hlI:(300:Int)<(n:Int)+(Y:Int):=by omega
  rw[a0n (fun x=>hl x.1),a0e (fun x=>hl x.1)];clear hn h hm hl y1 z0 z1;go_enter a1z,a1A;go_wp2_with fail;refine(ae HS).mono ?_;rintro e w' ⟨rfl,hw'⟩;rw[hw'];clear hw' w';go_wp2
  go_ret2
  exact⟨_,rfl,bG.nil _ _,hB1⟩
theorem lzLay_any(base n cap:Nat)(a:Option Addr)(s:List UInt8)(t:Tk)(w:World)(hn:s.length=n)(h:bG w base (.slice a n cap) s)(hm:n<=100000)(hb:base<=w.heap.size)(ho:okT t=true) :
  Calls Tryz.prog 205 #[.slice a n cap,dW t] w fun e w'=>∃v,e = .returned (.tuple #[v,.bool (dA s t).isSome])/\bG w' base v ((dA s t).getD [])/\Below base w w':=by
 cases hB:isB t
 ·
  have hK:isK t=true:=by simpa[okT,hB]using ho
  rw[my hK];have hK2:=hK;simp only[isK,a0j,a0o]at hK2;obtain⟨⟨_,hy⟩,hz⟩:=hK2;obtain⟨y1,y2⟩:=aB.1 hy;obtain⟨z1,z2⟩:=aB.1 hz;obtain⟨Y,hY⟩:=a0s (show 0<=t.2.1 by omega);obtain⟨Z,hZ⟩:=a0s (show 0<=t.2.2 by omega);rw[hY,hZ];have hs:nw t=Y:=by unfold nw;rw[hB,hY];simp
  refine(mg base n cap Y Z a s w hn h hm hb (by omega) (by omega) (by omega)).mono ?_;rintro e w' ⟨v,rfl,hq,hbel⟩;by_cases hc:n+Y<=300/\Z<=n
  · have hA:=iX (s:=s) ho (fun _=>by rw[hZ,hn];omega) (by rw[hs,hn];exact hc.1);rw[hB,hY,hZ]at hA;simp only[a1m,a1n,a0q]at hA;rw[a0d hc]at hq;rw[hA,a0E hc];exact⟨v,rfl,hq,hbel⟩
  ·
   have hA:dA s t=none:=by
    by_cases hl:n+Y<=300
    · exact vq hK (by rw[hZ,hn];omega)
    · exact kX (by rw[hs,hn];omega)
   rw[a0e hc]at hq;rw[hA,a0n hc];exact⟨v,rfl,hq,hbel⟩
 ·
  rw[jF hB];have hB2:=hB;simp only[isB,a0j,a0o]at hB2;obtain⟨x1,x2⟩:=aB.1 hB2.2.1;have hs:nw t=1:=by unfold nw;rw[hB];rfl
  refine(mh base n cap a s t.1 w hn h hm hb x1 x2).mono ?_;rintro e w' ⟨v,rfl,hq,hbel⟩;by_cases hc:n+1<=300
  · have hA:=iX (s:=s) ho (fun hk=>by rw[sY hB]at hk;cases hk) (by rw[hs,hn];exact hc);rw[hB]at hA;simp only[a0U]at hA;rw[a0d hc]at hq;rw[hA,a0E hc];exact⟨v,rfl,hq,hbel⟩
  · have hA:dA s t=none:=kX (by rw[hs,hn];omega);rw[a0e hc]at hq;rw[hA,a0n hc];exact⟨v,rfl,hq,hbel⟩
end Go.Proofs.YtfhdadkcophoaaaGreatDoor
namespace Go.Proofs.YtfhdadkcophoaaaGreatDoor.U
open Go.Proofs.YtfhdadkcophoaaaGreatDoor
open Go.RowKit
set_option maxRecDepth 100000 in
theorem mh(base n cap:Nat)(a:Option Addr)(s:List UInt8)(x:Int)(w:World)(hn:s.length=n)(h:bG w base (.slice a n cap) s)(hm:n<=100000)(hb:base<=w.heap.size)(x0:0<=x)(x1:x<=255) :
  Calls Tryz.prog 205 #[.slice a n cap,.iface 213 (.int .u8 x)] w fun e w'=>∃v,e = .returned (.tuple #[v,.bool (decide (n+1<=300))])/\bG w' base v (if n+1<=300 then s++[j9 x]else [])/\dS base w w':=by
 obtain⟨i0,hi,hz0,hz1,hz2⟩:=info_parts Tryz.infoU8;have hmI:(n:Int)<=100000:=by omega
 have m1:=rh;have t1:=jk;have HN:=af (And.intro hn hm);by_cases hl:n+1<=300
 ·
  obtain⟨N,hN⟩:∃N:Int,(n:Int)+1=N:=⟨_,rfl⟩;have hlI:¬ (300:Int)<N:=by omega
  have hdI:decide ((300:Int)<N)=false:=decide_eq_false hlI;have hbx:Hid (x=((j9 x).toNat:Int)):=(sF x0 x1).symm;have bd:Hid (n+1<=maxLen/\(n+1)*1<=140737488355328):=by show _/\_;unfold maxLen;omega
  have hqo:=af (h.own hn);rw[decide_eq_true hl,if_pos hl];clear hn h hm hl;go_enter Tryz.func205,Tryz.ntmps205;go_wp2_with fail;refine(eQ x w).mono ?_;rintro e w' ⟨rfl,hw'⟩;rw[hw'];clear hw' w';go_wp2_with (at_builtin;refine wpList_append_own _ rfl _ _ 22 rfl base 5 i0 (.int .u8 0) 1 1 Tryz.underlying22 hi hz0 hz1 hz2 rfl (by decide) _ _ _ rfl (World.ownsRow.alloc (ae hqo) _) ⟨w.heap.size,0,none⟩ 1 1 [.int .u8 x] rfl rfl (fU _ _ rfl _ _) (one_byte _) (ae bd).1 (ae bd).2 (ay hb _) ?_;intro v' x2 hown hgrow hnil;clear hnil);have hb2:dS base w x2:=oL (v:=.slice a n cap) hgrow (ae hqo) (Nat.le_refl _) hb (dS.refl _ _);rw[ae hbx]at hown;have hq2:=k9 (ae HN).1 hown;obtain⟨va,vc,rfl⟩:=hq2.form;clear hown hgrow;go_wp2
  go_ret2
  exact⟨_,rfl,hq2,hb2⟩
 ·
  obtain⟨N,hN⟩:∃N:Int,(n:Int)+1=N:=⟨_,rfl⟩;have hlI:(300:Int)<N:=by omega
  rw[decide_eq_false hl,if_neg hl];clear hn h hm hl;go_enter Tryz.func205,Tryz.ntmps205;go_wp2_with fail;refine(eQ x w).mono ?_;rintro e w' ⟨rfl,hw'⟩;rw[hw'];clear hw' w';go_wp2
  go_ret2
  exact⟨_,rfl,bG.nil _ _,dS.refl _ _⟩
set_option maxRecDepth 100000 in
theorem mg(base n cap Y Z:Nat)(a:Option Addr)(s:List UInt8)(w:World)(hn:s.length=n)(h:bG w base (.slice a n cap) s)(hm:n<=100000)(hb:base<=w.heap.size)(y1:Y<=60)(z0:1<=Z)(z1:Z<=250) :
  Calls Tryz.prog 205 #[.slice a n cap,.iface 215 (.agg #[.int .i64 (Y:Nat),.int .i64 (Z:Nat)])] w fun e w'=>∃v,e = .returned (.tuple #[v,.bool (decide (n+Y<=300/\Z<=n))])/\bG w' base v (if n+Y<=300/\Z<=n then rep s Z Y else [])/\dS base w w':=by
 obtain⟨i0,hi,hz0,hz1,hz2⟩:=info_parts Tryz.infoU8;have hmI:(n:Int)<=100000:=by omega
 have hYI:(Y:Int)<=60:=by omega
 have hZI:(Z:Int)<=250:=by omega
 have hZ1:(1:Int)<=(Z:Int):=by omega
 have m1:=re;have t1:=kY;have t2:=jj;have HN:=af (And.intro hn (And.intro hm z0));have HS:=af (jl (Y:Nat) (Z:Nat) w);have hB1:dS base w (w.alloc (.cells #[.int .i64 (Y:Nat),.int .i64 (Z:Nat)] 215)):=(dS.refl _ _).alloc hb _;by_cases hl:n+Y<=300
 ·
  have hlI:¬ (300:Int)<(n:Int)+(Y:Int):=by omega
  by_cases hf:Z<=n
  ·
   have hfI:¬ (n:Int)<(Z:Int):=by omega
   have hdz:decide (n<Z)=false:=decide_eq_false (by omega);rw[decide_eq_true ⟨hl,hf⟩,if_pos ⟨hl,hf⟩];have hF:=af hf;have hq0:bG ((w.alloc (.cells #[.int .i64 (Y:Nat),.int .i64 (Z:Nat)] 215)).alloc (.cells #[.int .i64 (Y:Nat),.int .i64 (Z:Nat)] 215)) base (.slice a n cap) s:=(h.later ((Below.refl w.heap.size w).alloc (Nat.le_refl _) _) (Nat.le_refl _)).later ((Below.refl _ _).alloc (Nat.le_refl _) _) (Nat.le_refl _);have hB2:dS base w ((w.alloc (.cells #[.int .i64 (Y:Nat),.int .i64 (Z:Nat)] 215)).alloc (.cells #[.int .i64 (Y:Nat),.int .i64 (Z:Nat)] 215)):=hB1.alloc (by simp;omega) _;have hbx:((w.alloc (.cells #[.int .i64 (Y:Nat),.int .i64 (Z:Nat)] 215)).alloc (.cells #[.int .i64 (Y:Nat),.int .i64 (Z:Nat)] 215)).heap[w.heap.size+1]?=some (Obj.cells #[.int .i64 (Y:Nat),.int .i64 (Z:Nat)] 215):=by
    have e:(w.alloc (.cells #[.int .i64 (Y:Nat),.int .i64 (Z:Nat)] 215)).heap.size=w.heap.size+1:=by simp
    rw[←e];exact alloc_at _ _
   have H0:=af (And.intro hq0 (And.intro hB2 hbx));clear hn h hm hl hf y1 z0 z1 hq0 hB2 hbx hB1;go_enter Tryz.func205,Tryz.ntmps205;go_wp2_with fail;refine(ae HS).mono ?_;rintro e w' ⟨rfl,hw'⟩;rw[hw'];clear hw' w';go_wp2_with fail
   go_loopw [0,32] (fun v i wr=>∃k:Nat,k<=Y/\i = .int .i64 k/\bG wr base v (rep s Z k)/\wr.heap[w.heap.size+1]?=some (Obj.cells #[.int .i64 (Y:Nat),.int .i64 (Z:Nat)] 215)/\dS base w wr) (fun _ i _=>Y-(intOf i).toNat)
   case atStart=>exact⟨0,Nat.zero_le _,rfl,(ae H0).1,(ae H0).2.2,(ae H0).2.1⟩
   case round=>
    obtain⟨k,hk,rfl,hq,hbox,hbel⟩:=hrel;obtain⟨c0,c1,hlw⟩:=cn hbox;have hlen:Hid ((rep s Z k).length=n+k):=by show _=_;rw[pJ,(ae HN).1]
    obtain⟨va,vc,rfl⟩:=hq.formN (ae hlen);have HK:=af hk;by_cases hlt:k<Y
    ·
     obtain⟨g,rfl⟩:=hq.somes (by rw[ae hlen];have:=ae hF;have:=(ae HN).2.2;omega);obtain⟨p,hp⟩:∃p,n+k-Z=p:=⟨_,rfl⟩;have hpI:((n:Int)+(k:Int))-(Z:Int)=(p:Int):=by have:=ae hF;omega
     obtain⟨d0,_,_⟩:=hq.at (j:=p) (ae hlen) (by have:=ae hF;have:=(ae HN).2.2;omega);have hst:Hid (rep s Z (k+1)=rep s Z k++[(rep s Z k).getD p 0]):=by
      show _=_;simp only[rep];rw[ae hlen,hp]
     have hbs:=Nat.le_trans hb hbel.size;have bd:Hid (n+k+1<=maxLen/\(n+k+1)*1<=140737488355328):=by show _/\_;have:=(ae HN).2.1;unfold maxLen;omega
     have hpn:(p:Int)<(n:Int)+(k:Int):=by omega
     have HQ:=af (And.intro hq (And.intro hbox hbel));have hqo:=af (hq.own (ae hlen));have Hp:=af hp;clear hq hbox hbel hk hp;generalize (rep s Z k).getD p 0=b at *
     go_wp2_with (at_builtin;refine wpList_append_own _ rfl _ _ 22 rfl base 5 i0 (.int .u8 0) 1 1 Tryz.underlying22 hi hz0 hz1 hz2 rfl (by decide) _ _ _ rfl (World.ownsRow.alloc (ae hqo) _) ⟨wr.heap.size,0,none⟩ 1 1 [.int .u8 (b.toNat:Int)] rfl rfl (fU _ _ rfl _ _) (one_byte _) (ae bd).1 (ae bd).2 (ay hbs _) ?_;intro v' x2 hown hgrow hnil;clear hnil);obtain⟨hq,hbox,hbel⟩:=ae HQ;have hb2:=oL (v:=.slice (some ⟨g,0,none⟩) (n+k) vc) hgrow (ae hqo) (Nat.le_refl _) hbs hbel;have hq2:=k9 (ae hlen) hown;rw[←ae hst]at hq2;have hbox2:=((aU.refl 215 wr).alloc (.cells #[.int .u8 (b.toNat:Int)] 5)).grown (World.ownsRow.alloc (ae hqo) _) (by decide) hgrow _ _ _ hbox;clear hown hgrow hq hbox hbel;go_wp2;go_roundw
     case rel=>exact⟨k+1,by have:=ae HK;omega,by go_num,hq2,hbox2,hb2⟩
     case measure=>simp[intOf];omega
    ·
     obtain rfl:k=Y:=by omega
     go_wp2
     go_ret2
     exact⟨_,rfl,hq,hbel⟩
  ·
   have hfI:(n:Int)<(Z:Int):=by omega
   have hdz:decide (n<Z)=true:=decide_eq_true (by omega);have hB2:dS base w ((w.alloc (.cells #[.int .i64 (Y:Nat),.int .i64 (Z:Nat)] 215)).alloc (.cells #[.int .i64 (Y:Nat),.int .i64 (Z:Nat)] 215)):=hB1.alloc (by simp;omega) _;rw[decide_eq_false (fun x=>hf x.2),if_neg (fun x=>hf x.2)];clear hn h hm hl hf y1 z0 z1;go_enter Tryz.func205,Tryz.ntmps205;go_wp2_with fail;refine(ae HS).mono ?_;rintro e w' ⟨rfl,hw'⟩;rw[hw'];clear hw' w';go_wp2
   go_ret2
   exact⟨_,rfl,bG.nil _ _,hB2⟩
 ·
  have hlI:(300:Int)<(n:Int)+(Y:Int):=by omega
  rw[decide_eq_false (fun x=>hl x.1),if_neg (fun x=>hl x.1)];clear hn h hm hl y1 z0 z1;go_enter Tryz.func205,Tryz.ntmps205;go_wp2_with fail;refine(ae HS).mono ?_;rintro e w' ⟨rfl,hw'⟩;rw[hw'];clear hw' w';go_wp2
  go_ret2
  exact⟨_,rfl,bG.nil _ _,hB1⟩
theorem lzLay_any(base n cap:Nat)(a:Option Addr)(s:List UInt8)(t:Tk)(w:World)(hn:s.length=n)(h:bG w base (.slice a n cap) s)(hm:n<=100000)(hb:base<=w.heap.size)(ho:okT t=true) :
  Calls Tryz.prog 205 #[.slice a n cap,dW t] w fun e w'=>∃v,e = .returned (.tuple #[v,.bool (dA s t).isSome])/\bG w' base v ((dA s t).getD [])/\dS base w w':=by
 cases hB:isB t
 ·
  have hK:isK t=true:=by simpa[okT,hB]using ho
  rw[my hK];have hK2:=hK;simp only[isK,Bool.and_eq_true,decide_eq_true_eq]at hK2;obtain⟨⟨_,hy⟩,hz⟩:=hK2;obtain⟨y1,y2⟩:=aB.1 hy;obtain⟨z1,z2⟩:=aB.1 hz;obtain⟨Y,hY⟩:=Int.eq_ofNat_of_zero_le (show 0<=t.2.1 by omega);obtain⟨Z,hZ⟩:=Int.eq_ofNat_of_zero_le (show 0<=t.2.2 by omega);rw[hY,hZ];have hs:nw t=Y:=by unfold nw;rw[hB,hY];simp
  refine(mg base n cap Y Z a s w hn h hm hb (by omega) (by omega) (by omega)).mono ?_;rintro e w' ⟨v,rfl,hq,hbel⟩;by_cases hc:n+Y<=300/\Z<=n
  · have hA:=iX (s:=s) ho (fun _=>by rw[hZ,hn];omega) (by rw[hs,hn];exact hc.1);rw[hB,hY,hZ]at hA;simp only[Bool.false_eq_true,if_false,Int.toNat_natCast]at hA;rw[if_pos hc]at hq;rw[hA,decide_eq_true hc];exact⟨v,rfl,hq,hbel⟩
  ·
   have hA:dA s t=none:=by
    by_cases hl:n+Y<=300
    · exact vq hK (by rw[hZ,hn];omega)
    · exact kX (by rw[hs,hn];omega)
   rw[if_neg hc]at hq;rw[hA,decide_eq_false hc];exact⟨v,rfl,hq,hbel⟩
 ·
  rw[jF hB];have hB2:=hB;simp only[isB,Bool.and_eq_true,decide_eq_true_eq]at hB2;obtain⟨x1,x2⟩:=aB.1 hB2.2.1;have hs:nw t=1:=by unfold nw;rw[hB];rfl
  refine(mh base n cap a s t.1 w hn h hm hb x1 x2).mono ?_;rintro e w' ⟨v,rfl,hq,hbel⟩;by_cases hc:n+1<=300
  · have hA:=iX (s:=s) ho (fun hk=>by rw[sY hB]at hk;cases hk) (by rw[hs,hn];exact hc);rw[hB]at hA;simp only[if_true]at hA;rw[if_pos hc]at hq;rw[hA,decide_eq_true hc];exact⟨v,rfl,hq,hbel⟩
  · have hA:dA s t=none:=kX (by rw[hs,hn];omega);rw[if_neg hc]at hq;rw[hA,decide_eq_false hc];exact⟨v,rfl,hq,hbel⟩
end Go.Proofs.YtfhdadkcophoaaaGreatDoor.U

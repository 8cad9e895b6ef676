/- Of what the proof is made: 2 texts, one behind the other. -/
import Derived.Test.YtemjckkocljgnaaGreatDoorM24
import Derived.Test.YtemjckkocljgnaaGreatDoorM9
namespace Go.Proofs.YtemjckkocljgnaaGreatDoor
open Go.RowKit Corb
set_option maxRecDepth 100000 in
set_option maxHeartbeats 1600000 in
theorem storedB_any (b p n cap:Nat) (a:Option Addr) (s:ByteArray) (T:List UInt8) (d:Option (List UInt8×Nat)) (w:World) (ho:BOwn w (b+1) (.slice a n cap) T) (hr:RF w b s p true) (hs:s.size≤2000) (hd:T.length≤300→d=none) (P:Nat) :
  Calls Tryz.prog 132 #[.pointer (some ⟨b,0,none⟩),.slice a n cap] w (MP w b P s T d):=by
 obtain ⟨p,hp,hr⟩:=hr.cut
 have HS0:Hid (MS w b s w (.slice a n cap) T p true):=⟨KU.refl _ _,ho,hr⟩
 have HW:=hide (whole_rf b p true s w hr hp (by omega))
 have HN:=hide hs
 have Hd:=hide hd
 clear ho hr hs hp hd
 go_enter Tryz.func132,Tryz.ntmps132
 by_cases hc1:numB s/2 ^ p%2 ^ ((8-p%8)%8)=0
 ·
  rw [decide_eq_true hc1] at HW
  clear hc1
  go_wp2_with fail
  refine (unhide HW).mono ?_
  rintro e x1 ⟨rfl,r1,k1⟩
  have HS1:=hide ((unhide HS0).keep1 k1 r1)
  clear k1 r1 HW HS0
  obtain ⟨Q1,hQ1⟩:∃ Q,p+(8-p%8)%8=Q:=⟨_,rfl⟩
  rw [hQ1] at HS1
  have HM:=hide (num_rf b Q1 16 true s _ (unhide HS1).2.2 nofun (by have:=unhide HN; omega) (by omega))
  rw [Bool.true_or] at HM
  go_wp2_with fail
  refine (unhide HM).mono ?_
  rintro e x2 ⟨rfl,r2,k2⟩
  have HS2:=hide ((unhide HS1).keep1 k2 r2)
  clear k2 r2 HM HS1
  have HM:=hide (num_rf b (Q1+16) 16 true s x2 (unhide HS2).2.2 nofun (by have:=unhide HN; omega) (by omega))
  obtain ⟨X,hX⟩:∃ X,numB s/2 ^ Q1%2 ^ 16=X:=⟨_,rfl⟩
  obtain ⟨Y,hY⟩:∃ Y,numB s/2 ^ (Q1+16)%2 ^ 16=Y:=⟨_,rfl⟩
  have hXI:(X:Int)≤65535:=by
   have:numB s/2 ^ Q1%2 ^ 16<65536:=Nat.mod_lt _ (by decide)
   omega
  have hYI:(Y:Int)≤65535:=by
   have:numB s/2 ^ (Q1+16)%2 ^ 16<65536:=Nat.mod_lt _ (by decide)
   omega
  rw [Bool.true_or,hY] at HM
  rw [hX]
  clear hX hY
  go_wp2_with fail
  refine (unhide HM).mono ?_
  rintro e x3 ⟨rfl,r3,k3⟩
  have HS3:=hide ((unhide HS2).keep1 k3 r3)
  clear k3 r3 HM HS2
  obtain ⟨c3,f3⟩:=(unhide HS3).2.2.bad
  by_cases hYX:Y=65535-X
  ·
   have g1:(Y:Int)=65535-(X:Int):=by omega
   by_cases hX3:300<X
   ·
    have gI:(300:Int)<(X:Int):=by omega
    clear hYX hX3
    have HSx0:=hide (unhide HS3).setBad
    go_wp2_with fail
    generalize x3.setCell ⟨b,2,none⟩ (.bool true)=XW at *
    have HSx:=hide (unhide HSx0)
    have c4:=(unhide HSx).2.2.bad.1
    go_loopw [1,6] (fun v i wr=>v = .slice a n cap∧i = .int .i64 0∧wr=XW) (fun _ _ _=>0)
    case atStart=>exact ⟨rfl,rfl,rfl⟩
    case round=>
     obtain ⟨rfl,rfl,rfl⟩:=hrel
     by_cases h0:0<X
     ·
      have h0I:(0:Int)<(X:Int):=by omega
      go_wp2
      go_ret
      exact (unhide HSx).end (MR.bad (unhide Hd))
     ·
      have h0I:¬ (0:Int)<(X:Int):=by omega
      go_wp2
      go_ret
      exact (unhide HSx).end (MR.bad (unhide Hd))
   ·
    have gI:¬ (300:Int)<(X:Int):=by omega
    clear hYX hX3
    have HSx0:=HS3
    obtain ⟨XW,hXW⟩:∃ XW,x3=XW:=⟨_,rfl⟩
    subst hXW
    go_wp2_with fail
    have HSx:=hide (unhide HSx0)
    have c4:=(unhide HSx).2.2.bad.1
    go_loopw [1,6] (fun v i wr=>v = .slice a n cap∧i = .int .i64 0∧wr=x3) (fun _ _ _=>0)
    case atStart=>exact ⟨rfl,rfl,rfl⟩
    case round=>
     obtain ⟨rfl,rfl,rfl⟩:=hrel
     by_cases h0:0<X
     ·
      have h0I:(0:Int)<(X:Int):=by omega
      go_wp2
      go_ret
      exact (unhide HSx).end (MR.bad (unhide Hd))
     ·
      have h0I:¬ (0:Int)<(X:Int):=by omega
      go_wp2
      go_ret
      exact (unhide HSx).end (MR.bad (unhide Hd))
  ·
   have g1:¬ (Y:Int)=65535-(X:Int):=by omega
   clear hYX
   have HSx0:=hide (unhide HS3).setBad
   go_wp2_with fail
   generalize x3.setCell ⟨b,2,none⟩ (.bool true)=XW at *
   have HSx:=hide (unhide HSx0)
   have c4:=(unhide HSx).2.2.bad.1
   go_loopw [1,6] (fun v i wr=>v = .slice a n cap∧i = .int .i64 0∧wr=XW) (fun _ _ _=>0)
   case atStart=>exact ⟨rfl,rfl,rfl⟩
   case round=>
    obtain ⟨rfl,rfl,rfl⟩:=hrel
    by_cases h0:0<X
    ·
     have h0I:(0:Int)<(X:Int):=by omega
     go_wp2
     go_ret
     exact (unhide HSx).end (MR.bad (unhide Hd))
    ·
     have h0I:¬ (0:Int)<(X:Int):=by omega
     go_wp2
     go_ret
     exact (unhide HSx).end (MR.bad (unhide Hd))
 ·
  rw [decide_eq_false hc1] at HW
  clear hc1
  go_wp2_with fail
  refine (unhide HW).mono ?_
  rintro e x0 ⟨rfl,r1,k1⟩
  have HS0':=hide ((unhide HS0).keep1 k1 r1)
  obtain ⟨c0,f0⟩:=r1.bad
  clear k1 r1 HW HS0
  have HS1:=hide (unhide HS0').setBad
  go_wp2_with fail
  generalize x0.setCell ⟨b,2,none⟩ (.bool true)=x1 at *
  obtain ⟨Q1,hQ1⟩:∃ Q,p+(8-p%8)%8=Q:=⟨_,rfl⟩
  rw [hQ1] at HS1
  have HM:=hide (num_rf b Q1 16 true s _ (unhide HS1).2.2 nofun (by have:=unhide HN; omega) (by omega))
  rw [Bool.true_or] at HM
  go_wp2_with fail
  refine (unhide HM).mono ?_
  rintro e x2 ⟨rfl,r2,k2⟩
  have HS2:=hide ((unhide HS1).keep1 k2 r2)
  clear k2 r2 HM HS1
  have HM:=hide (num_rf b (Q1+16) 16 true s x2 (unhide HS2).2.2 nofun (by have:=unhide HN; omega) (by omega))
  obtain ⟨X,hX⟩:∃ X,numB s/2 ^ Q1%2 ^ 16=X:=⟨_,rfl⟩
  obtain ⟨Y,hY⟩:∃ Y,numB s/2 ^ (Q1+16)%2 ^ 16=Y:=⟨_,rfl⟩
  have hXI:(X:Int)≤65535:=by
   have:numB s/2 ^ Q1%2 ^ 16<65536:=Nat.mod_lt _ (by decide)
   omega
  have hYI:(Y:Int)≤65535:=by
   have:numB s/2 ^ (Q1+16)%2 ^ 16<65536:=Nat.mod_lt _ (by decide)
   omega
  rw [Bool.true_or,hY] at HM
  rw [hX]
  clear hX hY
  go_wp2_with fail
  refine (unhide HM).mono ?_
  rintro e x3 ⟨rfl,r3,k3⟩
  have HS3:=hide ((unhide HS2).keep1 k3 r3)
  clear k3 r3 HM HS2
  obtain ⟨c3,f3⟩:=(unhide HS3).2.2.bad
  by_cases hYX:Y=65535-X
  ·
   have g1:(Y:Int)=65535-(X:Int):=by omega
   by_cases hX3:300<X
   ·
    have gI:(300:Int)<(X:Int):=by omega
    clear hYX hX3
    have HSx0:=hide (unhide HS3).setBad
    go_wp2_with fail
    generalize x3.setCell ⟨b,2,none⟩ (.bool true)=XW at *
    have HSx:=hide (unhide HSx0)
    have c4:=(unhide HSx).2.2.bad.1
    go_loopw [1,6] (fun v i wr=>v = .slice a n cap∧i = .int .i64 0∧wr=XW) (fun _ _ _=>0)
    case atStart=>exact ⟨rfl,rfl,rfl⟩
    case round=>
     obtain ⟨rfl,rfl,rfl⟩:=hrel
     by_cases h0:0<X
     ·
      have h0I:(0:Int)<(X:Int):=by omega
      go_wp2
      go_ret
      exact (unhide HSx).end (MR.bad (unhide Hd))
     ·
      have h0I:¬ (0:Int)<(X:Int):=by omega
      go_wp2
      go_ret
      exact (unhide HSx).end (MR.bad (unhide Hd))
   ·
    have gI:¬ (300:Int)<(X:Int):=by omega
    clear hYX hX3
    have HSx0:=HS3
    obtain ⟨XW,hXW⟩:∃ XW,x3=XW:=⟨_,rfl⟩
    subst hXW
    go_wp2_with fail
    have HSx:=hide (unhide HSx0)
    have c4:=(unhide HSx).2.2.bad.1
    go_loopw [1,6] (fun v i wr=>v = .slice a n cap∧i = .int .i64 0∧wr=x3) (fun _ _ _=>0)
    case atStart=>exact ⟨rfl,rfl,rfl⟩
    case round=>
     obtain ⟨rfl,rfl,rfl⟩:=hrel
     by_cases h0:0<X
     ·
      have h0I:(0:Int)<(X:Int):=by omega
      go_wp2
      go_ret
      exact (unhide HSx).end (MR.bad (unhide Hd))
     ·
      have h0I:¬ (0:Int)<(X:Int):=by omega
      go_wp2
      go_ret
      exact (unhide HSx).end (MR.bad (unhide Hd))
  ·
   have g1:¬ (Y:Int)=65535-(X:Int):=by omega
   clear hYX
   have HSx0:=hide (unhide HS3).setBad
   go_wp2_with fail
   generalize x3.setCell ⟨b,2,none⟩ (.bool true)=XW at *
   have HSx:=hide (unhide HSx0)
   have c4:=(unhide HSx).2.2.bad.1
   go_loopw [1,6] (fun v i wr=>v = .slice a n cap∧i = .int .i64 0∧wr=XW) (fun _ _ _=>0)
   case atStart=>exact ⟨rfl,rfl,rfl⟩
   case round=>
    obtain ⟨rfl,rfl,rfl⟩:=hrel
    by_cases h0:0<X
    ·
     have h0I:(0:Int)<(X:Int):=by omega
     go_wp2
     go_ret
     exact (unhide HSx).end (MR.bad (unhide Hd))
    ·
     have h0I:¬ (0:Int)<(X:Int):=by omega
     go_wp2
     go_ret
     exact (unhide HSx).end (MR.bad (unhide Hd))
set_option maxRecDepth 100000 in
set_option maxHeartbeats 1600000 in
theorem tokensB_any (b p P n cap nL capL nD capD:Nat) (a al ad:Option Addr) (s:ByteArray) (T:List UInt8) (L D:List Int) (d:Option (List UInt8×Nat)) (w:World) (ho:BOwn w (b+1) (.slice a n cap) T) (hr:RF w b s p true) (hd:T.length≤300→d=none)
  (hL:L.length=nL) (hD:D.length=nD) (okL:lensOk L=true) (okD:lensOk D=true) (jL:JRow w (b+1) al L) (jD:JRow w (b+1) ad D) :
  Calls Tryz.prog 133 #[.pointer (some ⟨b,0,none⟩),.slice a n cap,.slice al nL capL,.slice ad nD capD] w (MP w b P s T d):=by
 have hlt:=hr.lt
 have lL:=lensOk_len okL
 have lD:=lensOk_len okD
 have HS0:Hid (MS w b s w (.slice a n cap) T p true):=⟨KU.refl _ _,ho,hr⟩
 have C1:=hide (l3Codes_any al capL nL L w hL jL.1 (by omega))
 have C2:=hide (fun W (hW:Below w.heap.size w W)=>l3Codes_any ad capD nD D W hD (jD.later hW).1 (by omega))
 have Hd:=hide hd
 clear ho hr hL hD okL okD jL jD hd
 go_enter Tryz.func133,Tryz.ntmps133
 go_wp2_with fail
 refine (unhide C1).mono ?_
 rintro e x1 ⟨rfl,o1,b1⟩
 have HB1:=hide b1
 clear o1 b1 C1
 go_wp2_with fail
 refine (unhide C2 x1 (unhide HB1)).mono ?_
 rintro e x2 ⟨rfl,o2,b2⟩
 have hB:Below w.heap.size w x2:=(unhide HB1).trans (b2.mono (unhide HB1).size)
 have hS2:MS w b s x2 (.slice a n cap) T p true:=⟨(unhide HS0).1.later hB hlt,(unhide HS0).2.1.later hB (Nat.le_refl _),(unhide HS0).2.2.kept (hB.mono hlt)⟩
 have HS2:=hide hS2
 obtain ⟨c2,f2⟩:=hS2.2.2.bad
 have hltb:=hS2.lt
 clear o2 b2 C2 hB hS2 HS0 HB1
 go_wp2_with fail
 go_loopw [1,11] (fun v _ wr=>v = .slice a n cap∧wr=x2) (fun _ _ _=>0)
 case atStart=>exact ⟨rfl,rfl⟩
 case round=>
  obtain ⟨rfl,rfl⟩:=hrel
  go_wp2
  go_ret
  exact ((unhide HS2).setBad).end (MR.bad (unhide Hd))
def partD (V sz p:Nat) (T:List UInt8):Option (List UInt8×Nat):=(rdN V sz p 1).bind fun a=>(rdN V sz a.2 2).bind fun k=>kindG V sz k.1 k.2 T
theorem partD_yes {V sz p:Nat} {T:List UInt8} (h:p+1+2≤sz):partD V sz p T=kindG V sz (V/2 ^ (p+1)%2 ^ 2) (p+1+2) T:=by
 unfold partD
 rw [rdN_yes (by omega)]
 simp only [Option.bind_some]
 rw [rdN_yes h]
 rfl
theorem partD_no {V sz p:Nat} {T:List UInt8} (h:¬ p+1+2≤sz):partD V sz p T=none:=by
 unfold partD
 by_cases h1:p+1≤sz
 ·
  rw [rdN_yes h1]
  simp only [Option.bind_some]
  rw [rdN_no h]
  rfl
 ·
  rw [rdN_no h1]
  rfl
theorem kind_past {s:ByteArray} {p:Nat} (h:¬ p+1+2≤8*s.size):numB s/2 ^ (p+1)%2 ^ 2<2:=by
 have h1:=numB_past s (p+2) (by omega)
 rw [show p+2=p+1+1 by omega,Nat.pow_succ,←Nat.div_div_eq_div_mul] at h1
 generalize numB s/2 ^ (p+1)=x at *
 omega
theorem MR.from {sz p p' q:Nat} {T T':List UInt8} {d:Option (List UInt8×Nat)} {f:Bool} (h:MR sz p T d T' q f) (hp:p'≤p):MR sz p' T d T' q f:=⟨fun hf=>⟨(h.1 hf).1,Nat.le_trans hp (h.1 hf).2.1,(h.1 hf).2.2⟩,h.2⟩
def PmP (w:World) (b p:Nat) (s:ByteArray) (T:List UInt8) (l:Bool) (d:Option (List UInt8×Nat)) (e:Ending) (w':World):Prop:=
 KU b w w'∧∃ v T' q f,e = .returned (.tuple #[v,.bool l])∧BOwn w' (b+1) v T'∧RF w' b s q f∧MR (8*s.size) p T d T' q f
theorem MP.part {w x x':World} {b p p':Nat} {s:ByteArray} {T:List UInt8} {l:Bool} {d:Option (List UInt8×Nat)} {v:Value} (h:MP x b p s T d (.returned v) x') (hk:KU b w x) (hp:p'≤p):PmP w b p' s T l d (.returned (.tuple #[v,.bool l])) x':=by
 obtain ⟨h1,v',T',q,f,e,h2,h3,h4⟩:=h
 simp only [Ending.returned.injEq] at e
 subst e
 exact ⟨hk.trans h1,v,T',q,f,rfl,h2,h3,h4.from hp⟩
theorem storedX_any (b p n cap:Nat) (a:Option Addr) (s:ByteArray) (T:List UInt8) (d:Option (List UInt8×Nat)) (w:World) (hn:T.length=n) (ho:BOwn w (b+1) (.slice a n cap) T) (hr:Rdr w b s p) (hs:s.size≤2000) (hT:n≤300+p) (hd:d=if p≤8*s.size then storeG (numB s) (8*s.size) p T else none) :
  Calls Tryz.prog 132 #[.pointer (some ⟨b,0,none⟩),.slice a n cap] w (MP w b p s T d):=by
 by_cases hp:p≤8*s.size
 ·
  rw [hd,if_pos hp]
  exact stored_any b p n cap a s T w hn ho hr hp hs hT
 ·
  have h1:=rdr_rf hr
  rw [decide_eq_true (by omega)] at h1
  exact storedB_any b p n cap a s T d w ho h1 hs (fun _=>by rw [hd,if_neg hp]) p
theorem tokensX_any (b p n cap nL capL nD capD:Nat) (a al ad:Option Addr) (s:ByteArray) (T:List UInt8) (L D:List Int) (d:Option (List UInt8×Nat)) (w:World) (hn:T.length=n) (ho:BOwn w (b+1) (.slice a n cap) T) (hr:Rdr w b s p) (hs:s.size≤2000) (hT:n≤100000) (hd:d=if p≤8*s.size then tokG (numB s) (8*s.size) L D p T else none)
  (hL:L.length=nL) (hD:D.length=nD) (okL:lensOk L=true) (okD:lensOk D=true) (jL:JRow w (b+1) al L) (jD:JRow w (b+1) ad D) :
  Calls Tryz.prog 133 #[.pointer (some ⟨b,0,none⟩),.slice a n cap,.slice al nL capL,.slice ad nD capD] w (MP w b p s T d):=by
 by_cases hp:p≤8*s.size
 ·
  by_cases hT3:n≤300
  ·
   rw [hd,if_pos hp]
   exact tokensG_any b p n cap nL capL nD capD a al ad s T L D w hn ho hr hp hs hT3 hL hD okL okD jL jD
  ·
   exact tokensD_any b p n cap nL capL nD capD a al ad s T L D d w hn ho hr hp (by omega) hT hL hD okL okD jL jD
 ·
  have h1:=rdr_rf hr
  rw [decide_eq_true (by omega)] at h1
  exact tokensB_any b p p n cap nL capL nD capD a al ad s T L D d w ho h1 (fun _=>by rw [hd,if_neg hp]) hL hD okL okD jL jD
theorem BOwn.ki {w x:World} {b base:Nat} {v:Value} {T:List UInt8} (h:BOwn w base v T) (hk:KI b w.heap.size w x) (hb:b<base):BOwn x base v T:=by
 refine ⟨h.1,?_⟩
 rcases h.2 with hn | ⟨g,cap,cur,rfl,hbg,hgg,rest⟩
 ·
  exact .inl hn
 ·
  have hlt:=(Array.getElem?_eq_some_iff.1 hgg).1
  refine .inr ⟨g,cap,cur,rfl,hbg,?_,rest⟩
  rw [hk.2 g hlt (by omega) hlt]
  exact hgg
set_option maxRecDepth 100000 in
set_option maxHeartbeats 3200000 in
theorem partM_any (b p n cap:Nat) (a:Option Addr) (s:ByteArray) (T:List UInt8) (w:World) (hn:T.length=n) (ho:BOwn w (b+1) (.slice a n cap) T) (hr:Rdr w b s p) (hp:p≤8*s.size) (hs:s.size≤2000) (hT:n≤300+p) :
  Calls Tryz.prog 111 #[.pointer (some ⟨b,0,none⟩),.slice a n cap] w (PmP w b (p+1+2) s T (decide (((numB s/2 ^ p%2:Nat):Int)=1)) (partD (numB s) (8*s.size) p T)):=by
 obtain ⟨d,hd⟩:∃ d,partD (numB s) (8*s.size) p T=d:=⟨_,rfl⟩
 rw [hd]
 obtain ⟨X,hX⟩:∃ X,numB s/2 ^ p%2=X:=⟨_,rfl⟩
 obtain ⟨K,hK⟩:∃ K,numB s/2 ^ (p+1)%2 ^ 2=K:=⟨_,rfl⟩
 have hK4:K<4:=by rw [←hK]; exact Nat.mod_lt _ (by decide)
 have hDk:Hid (d=if p+1+2≤8*s.size then kindG (numB s) (8*s.size) K (p+1+2) T else none):=by
  show d=_
  rw [←hd]
  by_cases hc:p+1+2≤8*s.size
  ·
   rw [if_pos hc,partD_yes hc,hK]
  ·
   rw [if_neg hc,partD_no hc]
 have HKP:Hid (¬ p+1+2≤8*s.size→K<2):=fun h=>by rw [←hK]; exact kind_past h
 have N1:=hide (srcBit_any b p s w hr (by omega))
 have N2:=hide (fun W (h:Rdr W b s (p+1))=>srcNum_any b (p+1) 2 s W h (by omega) (by omega))
 rw [hX] at N1
 rw [hK] at N2
 rw [hX]
 have hXI:(X:Int)≤1:=by rw [←hX]; omega
 have HN:Hid (T.length=n∧s.size≤2000∧n≤300+p∧p≤8*s.size):=⟨hn,hs,hT,hp⟩
 have HO:=hide ho
 have hlt:=hr.lt
 have hnI:(n:Int)≤100000:=by omega
 clear hn ho hr hp hs hT hd hX hK
 go_enter Tryz.func111,Tryz.ntmps111
 go_wp2_with fail
 refine (unhide N1).mono ?_
 rintro e x1 ⟨rfl,r1,k1⟩
 have HX1:=hide (And.intro r1 k1)
 clear r1 k1 N1
 go_wp2_with fail
 refine (unhide N2 x1 (unhide HX1).1).mono ?_
 rintro e x2 ⟨rfl,r2,k2⟩
 have HX2:=hide (And.intro r2 ((unhide HX1).2.trans k2))
 have HO2:=hide ((unhide HO).keep1 (unhide HX2).2 (Nat.lt_succ_self _))
 clear r2 k2 N2 HX1 HO
 generalize hP:p+1+2=P at *
 have hlt2:=(unhide HX2).1.lt
 have hKc:K=0∨K=1∨K=2∨K=3:=by omega
 rcases hKc with rfl | rfl | rfl | rfl
 ·
  have HC:=hide (storedX_any b P n cap a s T d x2 (unhide HN).1 (unhide HO2) (unhide HX2).1 (unhide HN).2.1 (by have:=unhide HN; omega) (unhide hDk))
  go_wp2_with fail
  refine (unhide HC).mono ?_
  rintro e x3 hM
  obtain ⟨v,rfl⟩:∃ v,e = .returned v:=⟨_,hM.2.choose_spec.choose_spec.choose_spec.choose_spec.1⟩
  have HM:=hide hM
  clear hM HC
  go_wp2
  go_ret2
  exact (unhide HM).part (unhide HX2).2.ku (Nat.le_refl _)
 ·
  have C1:=hide (l5Fixed_any x2)
  go_wp2_with fail
  refine (unhide C1).mono ?_
  rintro e x3 ⟨v3,rfl,o3,b3⟩
  have l3:(fixL 288).length=288:=by kernel_rfl
  obtain ⟨a3,c3,rfl⟩:=o3.formN l3
  have J3:=hide ((own_jrow l3 (o3.own l3)).mono (b':=b+1) hlt2)
  have R3:=hide (And.intro ((unhide HX2).1.kept (b3.mono hlt2)) ((unhide HX2).2.later b3 hlt2))
  have O3:=hide ((unhide HO2).later b3 (Nat.le_refl _))
  have hlt3:=(unhide R3).1.lt
  have C2:=hide (l5Fives_any x3)
  clear C1 o3 b3 HX2 HO2 l3
  go_wp2_with fail
  refine (unhide C2).mono ?_
  rintro e x4 ⟨v4,rfl,o4,b4⟩
  have l4:(List.replicate 32 (5:Int)).length=32:=by simp
  obtain ⟨a4,c4,rfl⟩:=o4.formN l4
  have HC:=hide (tokensX_any b P n cap 288 c3 32 c4 a a3 a4 s T (fixL 288) (List.replicate 32 5) d x4 (unhide HN).1 ((unhide O3).later b4 (Nat.le_refl _)) ((unhide R3).1.kept (b4.mono hlt3)) (unhide HN).2.1 (by have:=unhide HN; omega) (unhide hDk) (by kernel_rfl) l4 fixL_ok fives_ok ((unhide J3).later b4) ((own_jrow l4 (o4.own l4)).mono (b':=b+1) hlt3))
  have HK4:=hide ((unhide R3).2.later b4 hlt3)
  clear C2 o4 b4 R3 O3 J3 l4
  go_wp2_with fail
  refine (unhide HC).mono ?_
  rintro e x5 hM
  obtain ⟨v,rfl⟩:∃ v,e = .returned v:=⟨_,hM.2.choose_spec.choose_spec.choose_spec.choose_spec.1⟩
  have HM:=hide hM
  clear hM HC
  go_wp2
  go_ret2
  exact (unhide HM).part (unhide HK4).ku (Nat.le_refl _)
 ·
  have hPs:P≤8*s.size:=by
   by_cases h:P≤8*s.size
   ·
    exact h
   ·
    have:=unhide HKP h; omega
  have C1:=hide (lensR_any b P s x2 (unhide HX2).1 hPs (unhide HN).2.1)
  have hDk2:Hid (d=(lensG (numB s) (8*s.size) P).bind fun x=>tokG (numB s) (8*s.size) (x.2.1.take x.1) (x.2.1.drop x.1) x.2.2 T):=by
   show d=_
   rw [unhide hDk,if_pos hPs,←ownG_lens]
   rfl
  clear hDk hPs
  go_wp2_with fail
  refine (unhide C1).mono ?_
  rintro e x3 ⟨k3,va,vb,q,f,rfl,r3,ht,hf⟩
  have O3:=hide ((unhide HO2).ki k3 (Nat.lt_succ_self _))
  have K3:=hide ((unhide HX2).2.ku.trans k3.ku)
  obtain ⟨c3,f3⟩:=r3.bad
  have hlt3:=r3.lt
  cases f
  ·
   obtain ⟨nL,nD,A,al,cl,ad,cd,rfl,rfl,hG,hA,jL,jD⟩:=hf rfl
   obtain ⟨g1,g2,g3,g4⟩:=lensG_bd hG
   have hdd:d=if q≤8*s.size then tokG (numB s) (8*s.size) (A.take nL) (A.drop nL) q T else none:=by rw [unhide hDk2,hG,if_pos g1]; rfl
   have HC:=hide (tokensX_any b q n cap nL cl nD cd a al ad s T (A.take nL) (A.drop nL) d x3 (unhide HN).1 (unhide O3) (rf_rdr r3 g1) (unhide HN).2.1 (by have:=unhide HN; omega) hdd (by rw [List.length_take]; omega) (by rw [List.length_drop]; omega) g3 g4 jL jD)
   have HPq:=hide g2
   clear C1 k3 r3 ht hf hG hA jL jD g1 g2 g3 g4 hdd
   go_wp2_with fail
   refine (unhide HC).mono ?_
   rintro e x5 hM
   obtain ⟨v,rfl⟩:∃ v,e = .returned v:=⟨_,hM.2.choose_spec.choose_spec.choose_spec.choose_spec.1⟩
   have HM:=hide hM
   clear hM HC
   go_wp2
   go_ret2
   exact (unhide HM).part (unhide K3) (unhide HPq)
  ·
   have Hn:Hid (d=none):=by show d=none; rw [unhide hDk2,ht rfl]; rfl
   have R3:=hide r3
   clear C1 k3 r3 ht hf
   go_wp2
   go_ret2
   exact ⟨unhide K3,_,T,q,true,rfl,unhide O3,unhide R3,MR.bad (fun _=>unhide Hn)⟩
 ·
  have Hn:Hid (d=none):=by
   show d=none
   rw [unhide hDk]
   split
   ·
    unfold kindG; rw [if_neg (by decide),if_neg (by decide),if_neg (by decide)]
   ·
    rfl
  have hS2:MS w b s x2 (.slice a n cap) T P (decide (8*s.size<P)):=⟨(unhide HX2).2.ku,unhide HO2,rdr_rf (unhide HX2).1⟩
  obtain ⟨c2,f2⟩:=hS2.2.2.bad
  have HS2:=hide hS2
  clear hS2
  go_wp2
  go_ret2
  exact ⟨(unhide HS2).setBad.1,_,T,P,true,rfl,(unhide HS2).setBad.2.1,(unhide HS2).setBad.2.2,MR.bad (fun _=>unhide Hn)⟩
end Go.Proofs.YtemjckkocljgnaaGreatDoor

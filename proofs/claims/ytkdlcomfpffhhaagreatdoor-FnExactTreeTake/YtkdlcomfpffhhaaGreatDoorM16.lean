/- Of what the proof is made: 4 texts, one behind the other. -/
import Derived.Test.YtkdlcomfpffhhaaGreatDoorSp1
import Derived.Test.YtkdlcomfpffhhaaGreatDoorM8
import Derived.Test.YtkdlcomfpffhhaaGreatDoorM9
namespace Go.Proofs.YtkdlcomfpffhhaaGreatDoor
open Go.RowKit Corb
def bitV (V p:Nat):Nat:=V/2 ^ p%2
theorem bitV_le (V p:Nat):bitV V p≤1:=by unfold bitV; omega
def cd (V p:Nat):Nat→Nat
 | 0=>0
 | n+1=>2*cd V p n+bitV V (p+n)
theorem cd_lt (V p n:Nat):cd V p n<p2 n:=by
 induction n with
 | zero=>simp [cd,p2]
 | succ n ih=>
  have:=bitV_le V (p+n)
  simp only [cd]
  rw [p2_succ]; omega
def symAt (l:List Int) (n c:Nat):Int:=(symsN l 15).getD (pl l n+(c-2*nx l n)) 0
def decF (l:List Int) (V sz p:Nat):Nat→Nat→Option (Int×Nat)
 | 0,_=>none
 | f+1,n=>if sz<p+n+1 then none else if cd V p (n+1)<nx l (n+1) then some (symAt l n (cd V p (n+1)),p+n+1) else decF l V sz p f (n+1)
def dec (l:List Int) (V sz p:Nat):Option (Int×Nat):=decF l V sz p 15 0
theorem sym_there {l:List Int} {n c:Nat} (hn:n<15) (h1:2*nx l n≤c) (h2:c<nx l (n+1)):∃ i,i<l.length∧l.getD i 0=(n:Int)+1∧codeAt l i=c∧symAt l n c=(i:Int):=by
 have e:nx l (n+1)=2*nx l n+many l ((n:Int)+1) l.length:=rfl
 obtain ⟨i,hi,hl,hm⟩:=many_at l ((n:Int)+1) l.length (c-2*nx l n) (by omega)
 refine ⟨i,hi,hl,?_,?_⟩
 ·
  unfold codeAt
  rw [hl,hm]
  have:((n:Int)+1).toNat-1=n:=by omega
  rw [this]; omega
 ·
  unfold symAt
  rw [←hm]
  exact symsN_get l 15 n i hi hl hn
theorem sym_one {l:List Int} {i j:Nat} (hl:l.getD i 0=l.getD j 0) (hc:codeAt l i=codeAt l j):i=j:=by
 unfold codeAt at hc
 rw [hl] at hc
 rcases Nat.lt_trichotomy i j with h | h | h
 ·
  have:=many_lt hl j h
  omega
 ·
  exact h
 ·
  have:=many_lt hl.symm i h
  rw [hl] at this
  omega
theorem pl_le (l:List Int) (N:Nat):pl l N≤N*l.length:=by rw [←symsN_eq]; exact symsN_le l N
theorem nx_bd {l:List Int} (hok:lensOk l=true) (N:Nat) (hN:N≤15):nx l N≤32768:=by
 have h:=nx_le hok N hN
 have h2:=p2_le N 15 hN
 have h3:p2 15=32768:=rfl
 omega
theorem cd_bd (V p n:Nat) (hn:n≤15):cd V p n<32768:=by
 have h:=cd_lt V p n
 have h2:=p2_le n 15 hn
 have h3:p2 15=32768:=rfl
 omega
theorem pl_mono (l : List Int) : ∀ a b, a ≤ b → pl l a ≤ pl l b := by
  intro a b hab
  induction b with
  | zero => have : a = 0 := by omega
            rw [this]; exact Nat.le_refl _
  | succ b ihb =>
    by_cases e2 : a = b + 1
    · rw [e2]; exact Nat.le_refl _
    · have := ihb (by omega)
      simp only [pl]; omega
theorem sym_in {l:List Int} {n c:Nat} (hn:n<15) (h1:2*nx l n≤c) (h2:c<nx l (n+1)):pl l n+(c-2*nx l n)<(symsN l 15).length:=by
 have e:nx l (n+1)=2*nx l n+many l ((n:Int)+1) l.length:=rfl
 have e2:pl l (n+1)=pl l n+many l ((n:Int)+1) l.length:=rfl
 have:=pl_mono l (n+1) 15 (by omega)
 rw [symsN_eq]; omega
theorem Book.heap {w w':World} {b:Nat} {vl vc vs:Value} {m:Nat→Nat} (h:Book w b vl vc vs m) (he:w'.heap[b]?=w.heap[b]?) (hs:w.heap.size≤w'.heap.size):Book w' b vl vc vs m:=by
 obtain ⟨c0,c1,c2,c3,f,hlt⟩:=h
 exact ⟨(World.cell?_of_block (a:=⟨b,0,none⟩) he).trans c0,(World.cell?_of_block (a:=⟨b,1,none⟩) he).trans c1,fun j hj=>(World.cell?_of_block (a:=⟨b,2+j,none⟩) he).trans (c2 j hj),(World.cell?_of_block (a:=⟨b,18,none⟩) he).trans c3,fun o=>(World.frozen?_of_block (a:=⟨b,o,none⟩) he).trans (f o),by omega⟩
theorem decF_short {l:List Int} {V sz p f n:Nat} (h:sz<p+n+1):decF l V sz p (f+1) n=none:=by simp only [decF]; rw [if_pos h]
theorem decF_hit {l:List Int} {V sz p f n:Nat} (h:¬ sz<p+n+1) (h2:cd V p (n+1)<nx l (n+1)):decF l V sz p (f+1) n=some (symAt l n (cd V p (n+1)),p+n+1):=by simp only [decF]; rw [if_neg h,if_pos h2]
theorem decF_next {l:List Int} {V sz p f n:Nat} (h:¬ sz<p+n+1) (h2:¬ cd V p (n+1)<nx l (n+1)):decF l V sz p (f+1) n=decF l V sz p f (n+1):=by simp only [decF]; rw [if_neg h,if_neg h2]
def GetPost (w:World) (b:Nat) (s:ByteArray) (d:Option (Int×Nat)) (e:Ending) (w':World):Prop:=
 Keep1 b w w'∧match d with
  | none=>e = .returned (.tuple #[.int .i64 0,.bool false])
  | some (i,q)=>e = .returned (.tuple #[.int .i64 i,.bool true])∧Rdr w' b s q
end Go.Proofs.YtkdlcomfpffhhaaGreatDoor
namespace Go.Proofs.YtkdlcomfpffhhaaGreatDoor.Bkx
open Go.Proofs.YtkdlcomfpffhhaaGreatDoor
open Go.RowKit Corb
set_option maxRecDepth 100000
set_option linter.unusedSimpArgs false
set_option maxHeartbeats 3200000 in
theorem bookGet_any (B:BkI) (hB:Bks B) (a sa:Option Addr) (cap n sn sc b p:Nat) (vc:Value) (C:Array Value) (l:List Int) (s:ByteArray) (w:World) (hC:C=(bookCells (.slice a n cap) vc (.slice sa sn sc) (manyN l 15)).toArray) (hok:lensOk l=true) (hsn:(symsN l 15).length=sn)
  (hs:s.size≤2000000) (hr:Rdr w b s p) (hp:p≤8*s.size) (hrow:∀ W,Keep1 b w W→IRow W sa (symsN l 15)) :
  Calls Tryz.prog B.g #[.agg C,.pointer (some ⟨b,0,none⟩)] w (GetPost w b s (dec l (numB s) (8*s.size) p)):=by
 have hbl:=hr.lt
 have hB0:=book_new w (.slice a n cap) vc (.slice sa sn sc) (manyN l 15) B.T
 rw [←hC] at hB0
 have hk0:Keep1 b w (w.alloc (.cells C B.T)):=(Keep1.refl b w).alloc (by omega) _
 have hr0:=hr.alloc (.cells C B.T)
 have hsz0:w.heap.size<(w.alloc (.cells C B.T)).heap.size:=by simp
 have HS:=hide hs
 have HP:=hide hp
 have HOK:=hide hok
 have HSN:=hide hsn
 have hsnI:(sn:Int)≤4500:=by
  have h1:=symsN_le l 15
  have h2:=lensOk_len hok
  have h3:15*l.length≤15*300:=Nat.mul_le_mul_left _ h2
  omega
 have hspI:(p:Int)≤16000000:=by omega
 have Hr:=hide hrow
 clear hC hr hs hp hok hsn hrow
 obtain ⟨w0,hw0⟩:∃ x,w.alloc (.cells C B.T)=x:=⟨_,rfl⟩
 rw [hw0] at hB0 hk0 hr0 hsz0
 rcases hB with rfl | rfl | rfl
 all_goals
  simp only [bkL,bkD,bkN] at hw0 ⊢
  have HW0:=hide hw0
  clear hw0
  (first | go_enter Tryz.func286,Tryz.ntmps286 | go_enter Tryz.func292,Tryz.ntmps292 | go_enter Tryz.func290,Tryz.ntmps290)
  go_wp2_with fail
  rw [unhide HW0]
  go_loopw [4,5,6,7,8,9] (fun _ _ c f pc lg wr=>∃ N:Nat,N≤15∧lg = .int .i64 ((N:Int)+1)∧c = .int .i64 (cd (numB s) p N:Nat)∧f = .int .i64 (nx l N:Nat)∧pc = .int .i64 (pl l N:Nat)∧nx l N≤cd (numB s) p N∧Rdr wr b s (p+N)∧Keep1 b w wr∧Book wr w.heap.size (.slice a n cap) vc (.slice sa sn sc) (manyN l 15)∧dec l (numB s) (8*s.size) p=decF l (numB s) (8*s.size) p (15-N) N) (fun _ _ _ _ _ lg _=>16-(intOf lg).toNat)
  case atStart=>exact ⟨0,by omega,rfl,rfl,rfl,rfl,Nat.le_refl _,hr0,hk0,hB0,rfl⟩
  case round=>
   obtain ⟨N,hN,rfl,rfl,rfl,rfl,hge,hrd,hkp,hbk,hdec⟩:=hrel
   clear hr0 hk0 hB0 hsz0
   have hNI:(N:Int)≤15:=by omega
   have c1:=hide (cd_bd (numB s) p N hN)
   have c2:=hide (nx_bd (unhide HOK) N hN)
   have cI:(cd (numB s) p N:Int)≤32768:=by have:=unhide c1; omega
   have nI:(nx l N:Int)≤32768:=by have:=unhide c2; omega
   have HGE:=hide hge
   have HD:=hide hdec
   clear hge hdec
   by_cases hlt:N<15
   ·
    have hN15:(N:Int)<15:=by omega
    have hd15:decide ((N:Int)+1≤15)=true:=decide_eq_true (by omega)
    have hbit:(numB s/2 ^ (p+N)%2:Nat)=bitV (numB s) (p+N):=rfl
    have hb1:=bitV_le (numB s) (p+N)
    have hcd:Hid (cd (numB s) p (N+1)=2*cd (numB s) p N+bitV (numB s) (p+N)):=rfl
    have hcb:=hide (cd_bd (numB s) p (N+1) (by omega))
    have hnx:Hid (nx l (N+1)=2*nx l N+many l ((N:Int)+1) l.length):=rfl
    have hpl:Hid (pl l (N+1)=pl l N+many l ((N:Int)+1) l.length):=rfl
    have hnb:=hide (nx_bd (unhide HOK) (N+1) (by omega))
    have hpb:(pl l (N+1):Int)≤4500:=by
     have h1:=pl_le l (N+1)
     have h2:=lensOk_len (unhide HOK)
     have h3:(N+1)*l.length≤15*300:=Nat.mul_le_mul (by omega) h2
     omega
    have hmm:Hid (manyN l 15 (N+1)=many l ((N:Int)+1) l.length):=by
     show manyN l 15 (N+1)=_
     unfold manyN
     rw [if_pos ⟨by omega,by omega⟩]
     congr 1
    have hin:=hide (fun h1 h2=>sym_in (l:=l) (n:=N) (c:=cd (numB s) p (N+1)) hlt h1 h2)
    have Hhit:=hide (fun h1 h2=>decF_hit (l:=l) (V:=numB s) (sz:=8*s.size) (p:=p) (f:=14-N) (n:=N) h1 h2)
    have Hnext:=hide (fun h1 h2=>decF_next (l:=l) (V:=numB s) (sz:=8*s.size) (p:=p) (f:=14-N) (n:=N) h1 h2)
    have Hshort:=hide (fun h1=>decF_short (l:=l) (V:=numB s) (sz:=8*s.size) (p:=p) (f:=14-N) (n:=N) h1)
    have e15:15-N=(14-N)+1:=by omega
    have e14:14-N=15-(N+1):=by omega
    rw [e15] at HD
    have hsym:Hid (symAt l N (cd (numB s) p (N+1))=(symsN l 15).getD (pl l N+(cd (numB s) p (N+1)-2*nx l N)) 0):=rfl
    generalize many l ((N:Int)+1) l.length=M at *
    go_wp2_with fail
    refine (rdBit_any b (p+N) s _ hrd (unhide HS)).mono ?_
    rintro e x1 ⟨rfl,hrd1,hk1⟩
    rw [hbit]
    have hkp1:=hkp.trans hk1
    have hbk1:=hbk.heap (hk1.2 _ (by have:=hbk.2.2.2.2.2; exact this) (by omega)) hk1.1.size
    have hmc:=hbk1.2.2.1 (N+1) (by omega)
    rw [unhide hmm] at hmc
    have hsc:=hbk1.2.2.2.1
    have hwl:=hbk1.2.2.2.2.2
    have HIR:=hide (unhide Hr x1 hkp1)
    have hAF:=unhide HGE
    have hXB:=unhide hcb
    have hYB:=unhide hnb
    have hPP:=unhide hpl
    have hXX:=unhide hcd
    have hYY:=unhide hnx
    clear hrd hkp hk1 hbk hmm hbit Hr
    generalize hX':cd (numB s) p (N+1)=X at *
    have EX:=hide hX'
    clear hX'
    generalize cd (numB s) p N=A at *
    generalize bitV (numB s) (p+N)=D at *
    generalize hY':nx l (N+1)=Y at *
    have EY:=hide hY'
    clear hY'
    generalize nx l N=F at *
    generalize hP':pl l (N+1)=P' at *
    have EP:=hide hP'
    clear hP'
    generalize pl l N=P at *
    have hDI:(D:Int)≤1:=by omega
    have hMI:(M:Int)≤32768:=by omega
    have hPI:(P:Int)≤4500:=by omega
    have hrd2:=hrd1
    obtain ⟨q0,q1,q2,g0,g1,g2,hb3⟩:=hrd2
    by_cases hsh:8*s.size<p+N+1
    ·
     rw [decide_eq_true (show 8*s.size<p+N+1 from hsh)] at q2
     have Hn:Hid (dec l (numB s) (8*s.size) p=none):=by
      show dec l (numB s) (8*s.size) p=none
      rw [unhide HD]; exact unhide Hshort hsh
     have HKP:=hide hkp1
     clear hbk1 hXX hYY hPP hsh q0 q1 g0 g1 g2 hrd1 hkp1 hXB hYB hAF
     go_wp2
     go_ret2
     unfold GetPost
     rw [unhide Hn]
     exact ⟨unhide HKP,rfl⟩
    ·
     rw [decide_eq_false (show ¬ 8*s.size<p+N+1 from hsh)] at q2
     have HSH:=hide hsh
     by_cases hhit:X<Y
     ·
      have hxI:(A:Int)*2+(D:Int)<(F:Int)*2+(M:Int):=by omega
      have hin':=unhide hin (by omega) hhit
      have Hd:Hid (dec l (numB s) (8*s.size) p=some (symAt l N X,p+N+1)):=by
       show dec l (numB s) (8*s.size) p=_
       rw [unhide HD]; exact unhide Hhit hsh hhit
      have hK:((P:Int)+((A:Int)*2+(D:Int))-(F:Int)*2)=((P+(X-2*F):Nat):Int):=by omega
      have hsn':=unhide HSN
      obtain ⟨g,o,rfl,hg,hcc⟩:=unhide HIR (by omega)
      have c0:=hcc (P+(X-2*F)) (by omega)
      rw [←unhide hsym] at c0
      have hKI:((P+(X-2*F):Nat):Int)<(sn:Int):=by omega
      generalize P+(X-2*F)=K at *
      generalize symAt l N X=Z at *
      have HKP:=hide hkp1
      have HRD:=hide hrd1
      have hK0:(0:Int)≤(K:Int):=by omega
      clear hcc hbk1 hXX hYY hPP hsh q0 q1 g0 g1 g2 hrd1 hkp1 hXB hYB hAF hhit hin' hsn'
      go_wp2
      go_ret2
      unfold GetPost
      rw [unhide Hd]
      exact ⟨unhide HKP,rfl,unhide HRD⟩
     ·
      have hxI:¬ (A:Int)*2+(D:Int)<(F:Int)*2+(M:Int):=by omega
      have Hd:Hid (dec l (numB s) (8*s.size) p=decF l (numB s) (8*s.size) p (15-(N+1)) (N+1)):=by
       show dec l (numB s) (8*s.size) p=_
       rw [unhide HD,unhide Hnext hsh hhit,e14]
      have HKP:=hide hkp1
      have HRD:=hide hrd1
      have HBK:=hide hbk1
      have HYX:Hid (Y≤X):=by show Y≤X; omega
      have eX:Hid ((A:Int)*2+(D:Int)=(X:Int)):=by show (A:Int)*2+(D:Int)=(X:Int); omega
      have eY:Hid ((F:Int)*2+(M:Int)=(Y:Int)):=by show (F:Int)*2+(M:Int)=(Y:Int); omega
      have eP:Hid ((P:Int)+(M:Int)=(P':Int)):=by show (P:Int)+(M:Int)=(P':Int); omega
      clear hbk1 hXX hYY hPP hsh q0 q1 g0 g1 g2 hrd1 hkp1 hXB hYB hAF hhit HIR hsc
      go_wp2
      go_roundw
      case rel=>exact ⟨N+1,by omega,by go_num,by rw [unhide eX,unhide EX],by rw [unhide eY,unhide EY],by rw [unhide eP,unhide EP],by rw [unhide EX,unhide EY]; exact unhide HYX,unhide HRD,unhide HKP,unhide HBK,unhide Hd⟩
      case measure=>simp [intOf]; omega
   ·
    obtain rfl:N=15:=by omega
    have Hn:Hid (dec l (numB s) (8*s.size) p=none):=unhide HD
    go_wp2
    go_ret2
    unfold GetPost
    rw [unhide Hn]
    exact ⟨hkp,rfl⟩
end Go.Proofs.YtkdlcomfpffhhaaGreatDoor.Bkx
namespace Go.Proofs.YtkdlcomfpffhhaaGreatDoor
open Go.RowKit Corb
theorem Rdr.three {w:World} {b p:Nat} {s:ByteArray} (h:Rdr w b s p) (hp:8*s.size<p):Three w b (.string s) (.int .i64 (min p (8*s.size):Nat)) (.bool true):=by
 unfold Rdr at h
 rwa [decide_eq_true hp] at h
theorem keep1_set0 (w:World) (b o:Nat) (u:Value) (ho:o<3:=by omega):Keep1 b w (w.setCell ⟨b,o,none⟩ u):=
 ⟨below_set (Below.refl _ _) (Nat.le_refl _) _,fun k _ hk=>Below.heap_setCell w ⟨b,o,none⟩ u k hk,fun j hj=>⟨by rw [World.cell?_setCell_other _ _ _ _ (by simp only [ne_eq,Addr.mk.injEq,and_true,true_and]; omega)],by simp⟩⟩
end Go.Proofs.YtkdlcomfpffhhaaGreatDoor

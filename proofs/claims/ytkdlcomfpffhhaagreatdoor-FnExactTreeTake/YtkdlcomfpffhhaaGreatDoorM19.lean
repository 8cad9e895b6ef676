/- Of what the proof is made: 7 texts, one behind the other. -/
import Derived.Test.YtkdlcomfpffhhaaGreatDoorM18
import Derived.Test.YtkdlcomfpffhhaaGreatDoorM17
import Derived.Test.YtkdlcomfpffhhaaGreatDoorM8
import Derived.Test.YtkdlcomfpffhhaaGreatDoorM13
import Derived.WalkLawsBesides
import Derived.Test.YtkdlcomfpffhhaaGreatDoorM3
import Derived.Test.YtkdlcomfpffhhaaGreatDoorM16
namespace Go.Proofs.YtkdlcomfpffhhaaGreatDoor
open Go.RowKit Corb
def faultE:Ending:=.panicked [{ v:=.iface 306 (.agg #[]),recovered:=false }]
theorem need_yes (w:World):Calls Tryz.prog 250 #[.bool true] w fun e w'=>e = .returned (.tuple #[])∧w'=w:=by
 go_enter Tryz.func250,Tryz.ntmps250
 go_wp2
 go_end0
 exact ⟨rfl,rfl⟩
theorem need_no (w:World):Calls Tryz.prog 250 #[.bool false] w fun e w'=>e=faultE∧w'=w:=by
 go_enter Tryz.func250,Tryz.ntmps250
 go_wp2
 exact ⟨rfl,rfl,rfl⟩
def NumP (w:World) (b:Nat) (s:ByteArray) (d:Option (Nat×Nat)) (e:Ending) (w':World):Prop:=
 Keep1 b w w'∧match d with
  | none=>e=faultE
  | some (x,q)=>e = .returned (.int .i64 (x:Nat))∧Rdr w' b s q
theorem number_any (b p k:Nat) (s:ByteArray) (w:World) (h:Rdr w b s p) (hs:s.size≤2000000) (hk:k≤16) :
  Calls Tryz.prog 249 #[.pointer (some ⟨b,0,none⟩),.int .i64 (k:Int)] w (NumP w b s (rdN (numB s) (8*s.size) p k)):=by
 have HP:=hide (rdPass_any b p k 0 s w h hs hk)
 unfold NumP
 by_cases hc:p+k≤8*s.size
 ·
  rw [rdN_yes hc]
  have hd:decide (8*s.size<p+k)=false:=decide_eq_false (by omega)
  have Hd:=hide hd
  clear h hs hk hc hd
  go_enter Tryz.func249,Tryz.ntmps249
  go_wp2_with fail
  refine (unhide HP).mono ?_
  rintro e x1 ⟨rfl,r1,k1⟩
  have r2:=r1
  unfold Rdr at r2
  rw [unhide Hd] at r2
  obtain ⟨q0,q1,q2,_⟩:=r2
  have HK:=hide (And.intro r1 k1)
  clear r1 k1 HP q0 q1
  go_wp2_with fail
  refine (need_yes _).mono ?_
  rintro e x2 ⟨rfl,hx2⟩
  rw [hx2]
  clear hx2 x2
  go_wp2
  go_ret
  exact ⟨(unhide HK).2,rfl,(unhide HK).1⟩
 ·
  rw [rdN_no hc]
  have hd:decide (8*s.size<p+k)=true:=decide_eq_true (by omega)
  have Hd:=hide hd
  clear h hs hk hc hd
  go_enter Tryz.func249,Tryz.ntmps249
  go_wp2_with fail
  refine (unhide HP).mono ?_
  rintro e x1 ⟨rfl,r1,k1⟩
  have r2:=r1
  unfold Rdr at r2
  rw [unhide Hd] at r2
  obtain ⟨q0,q1,q2,_⟩:=r2
  have HK:=hide k1
  clear r1 k1 HP q0 q1
  go_wp2_with fail
  refine (need_no _).mono ?_
  rintro e x2 ⟨rfl,hx2⟩
  rw [hx2]
  clear hx2 x2
  exact ⟨rfl,unhide HK,rfl⟩
theorem Keep1.later {b:Nat} {w w1 w2:World} (h:Keep1 b w w1) (hb:Below w1.heap.size w1 w2) (hbw:b<w1.heap.size):Keep1 b w w2:=
 ⟨h.1.trans (hb.mono (Nat.le_of_lt hbw)),fun j hj hne=>(hb.block j (Nat.lt_of_lt_of_le hj h.1.size)).trans (h.2 j hj hne),fun j hj=>⟨(hb.cell (p:=⟨b,j,none⟩) hbw).trans (h.3 j hj).1,(hb.frozen (p:=⟨b,j,none⟩) hbw).trans (h.3 j hj).2⟩⟩
def restG (V p:Nat):Option Nat:=if V/2 ^ p%2 ^ ((8-p%8)%8)=0 then some (p+(8-p%8)%8) else none
theorem wholeByte_any (b p:Nat) (s:ByteArray) (w:World) (h:Rdr w b s p) (hs:s.size≤2000000) (hp:p≤8*s.size) :
  Calls Tryz.prog 251 #[.pointer (some ⟨b,0,none⟩)] w fun e w'=>Keep1 b w w'∧match restG (numB s) p with
   | none=>e=faultE
   | some q=>e = .returned (.tuple #[])∧Rdr w' b s q:=by
 have HP:=hide (rdClear_any b p s w h hs hp)
 unfold restG
 by_cases hc:numB s/2 ^ p%2 ^ ((8-p%8)%8)=0
 ·
  rw [if_pos hc]
  rw [decide_eq_true hc] at HP
  clear h hs hp hc
  go_enter Tryz.func251,Tryz.ntmps251
  go_wp2_with fail
  refine (unhide HP).mono ?_
  rintro e x1 ⟨rfl,r1,k1⟩
  have HK:=hide (And.intro r1 k1)
  clear r1 k1 HP
  go_wp2_with fail
  refine (need_yes _).mono ?_
  rintro e x2 ⟨rfl,hx2⟩
  rw [hx2]
  clear hx2 x2
  go_wp2
  go_end0
  exact ⟨(unhide HK).2,rfl,(unhide HK).1⟩
 ·
  rw [if_neg hc]
  rw [decide_eq_false hc] at HP
  clear h hs hp hc
  go_enter Tryz.func251,Tryz.ntmps251
  go_wp2_with fail
  refine (unhide HP).mono ?_
  rintro e x1 ⟨rfl,r1,k1⟩
  have HK:=hide k1
  clear r1 k1 HP
  go_wp2_with fail
  refine (need_no _).mono ?_
  rintro e x2 ⟨rfl,hx2⟩
  rw [hx2]
  clear hx2 x2
  exact ⟨rfl,unhide HK,rfl⟩
set_option maxRecDepth 100000 in
set_option maxHeartbeats 1600000 in
theorem scaled_any (L G M b p k:Nat) (s:ByteArray) (w:World) (h:Rdr w b s p) (hs:s.size≤2000000) (hL:L≤3) (hG:1≤G) (hG4:G≤4) (hM:M≤30) (hMG:∀ k,k<M→k/G≤15) (hk:k≤1000) :
  Calls Tryz.prog 287 #[.pointer (some ⟨b,0,none⟩),.agg #[.int .i64 (L:Nat),.int .i64 (G:Nat),.int .i64 (M:Nat)],.int .i64 (k:Nat)] w (NumP w b s (scG (numB s) (8*s.size) L G M k p)):=by
 have hbl:=h.lt
 have hA:Keep1 b w (w.alloc (.cells #[.int .i64 (L:Nat),.int .i64 (G:Nat),.int .i64 (M:Nat)] 291)):=(Keep1.refl b w).alloc hbl _
 have hbA:(w.alloc (.cells #[.int .i64 (L:Nat),.int .i64 (G:Nat),.int .i64 (M:Nat)] 291)).heap[w.heap.size]?=some (Obj.cells #[.int .i64 (L:Nat),.int .i64 (G:Nat),.int .i64 (M:Nat)] 291):=alloc_at _ _
 have hrA:=h.alloc (.cells #[.int .i64 (L:Nat),.int .i64 (G:Nat),.int .i64 (M:Nat)] 291)
 have HS:=hide hs
 unfold NumP scG
 by_cases hc:k<M
 ·
  rw [if_pos hc]
  have hcI':(k:Int)<(M:Int):=by omega
  have hbd:=stF_bd hL hG hG4 (hMG k hc)
  have HSt:=hide (fun W=>step_any L G M k W hL hG hG4 (hMG k hc) (by omega))
  obtain ⟨c0,c1,c2,_⟩:=k3_cells hbA
  have HX:=hide (And.intro hA hrA)
  clear h hs hL hG hG4 hM hMG hk hc hA hrA hbA
  generalize hE:stF L G k=E at *
  clear hE
  obtain ⟨E1,E2⟩:=E
  simp only at hbd HSt ⊢
  rcases hN:rdN (numB s) (8*s.size) p E2 with _ | ⟨x,q⟩
  ·
   simp only [Option.bind_none]
   have HNe:=hide hN
   clear hN
   go_enter Tryz.func287,Tryz.ntmps287
   go_wp2_with fail
   refine (need_yes _).mono ?_
   rintro e x2 ⟨rfl,hx2⟩
   rw [hx2]
   clear hx2 x2
   go_wp2_with fail
   refine (unhide HSt _).mono ?_
   rintro e x2 ⟨rfl,b2⟩
   have hk2:=(unhide HX).1.later b2 (unhide HX).2.lt
   have hr2:=(unhide HX).2.kept (b2.mono (unhide HX).2.lt)
   have HN:=hide (number_any b p E2 s x2 hr2 (unhide HS) (by omega))
   unfold NumP at HN
   rw [unhide HNe] at HN
   have HK:=hide hk2
   clear b2 hk2 hr2 HX HSt c0 c1 c2 HNe
   go_wp2_with fail
   refine (unhide HN).mono ?_
   rintro e x3 ⟨k3,rfl⟩
   exact ⟨rfl,(unhide HK).trans k3,rfl⟩
  ·
   simp only [Option.bind_some]
   have HNe:=hide hN
   have hxb:=(rdN_bd hN).2.2.2
   have hxI:(x:Int)<65536:=by
    have h1:2 ^ E2≤2 ^ 16:=Nat.pow_le_pow_right (by omega) (by omega)
    omega
   clear hN hxb
   go_enter Tryz.func287,Tryz.ntmps287
   go_wp2_with fail
   refine (need_yes _).mono ?_
   rintro e x2 ⟨rfl,hx2⟩
   rw [hx2]
   clear hx2 x2
   go_wp2_with fail
   refine (unhide HSt _).mono ?_
   rintro e x2 ⟨rfl,b2⟩
   have hk2:=(unhide HX).1.later b2 (unhide HX).2.lt
   have hr2:=(unhide HX).2.kept (b2.mono (unhide HX).2.lt)
   have HN:=hide (number_any b p E2 s x2 hr2 (unhide HS) (by omega))
   unfold NumP at HN
   rw [unhide HNe] at HN
   have HK:=hide hk2
   clear b2 hk2 hr2 HX HSt c0 c1 c2 HNe
   go_wp2_with fail
   refine (unhide HN).mono ?_
   rintro e x3 ⟨k3,rfl,r3⟩
   have HY:=hide (And.intro ((unhide HK).trans k3) r3)
   clear k3 r3 HN HK
   go_wp2
   go_ret
   exact ⟨(unhide HY).1,ret_int (by simp),(unhide HY).2⟩
 ·
  rw [if_neg hc]
  have hcI':¬ (k:Int)<(M:Int):=by omega
  have HK:=hide hA
  clear h hs hL hG hG4 hM hMG hk hc hA hrA hbA
  go_enter Tryz.func287,Tryz.ntmps287
  go_wp2_with fail
  refine (need_no _).mono ?_
  rintro e x2 ⟨rfl,hx2⟩
  rw [hx2]
  clear hx2 x2
  exact ⟨rfl,unhide HK,rfl⟩
theorem xor_full (n:Nat) (h:n≤65535):n ^^^ 65535=65535-n:=by
 apply Nat.eq_of_testBit_eq
 intro i
 have e1:(65535:Nat)=2 ^ 16-1:=rfl
 have e2:65535-n=2 ^ 16-(n+1):=by omega
 rw [e2,Nat.testBit_two_pow_sub_succ (by omega),Nat.testBit_xor,e1,Nat.testBit_two_pow_sub_one]
 by_cases hi:i<16
 ·
  simp [hi]
 ·
  have:n.testBit i=false:=Nat.testBit_lt_two_pow (Nat.lt_of_lt_of_le (by omega) (Nat.pow_le_pow_right (by omega) (Nat.le_of_not_lt hi)))
  simp [hi,this]
def bytesG (V sz:Nat):Nat→Nat→List UInt8→Option (List UInt8×Nat)
 | 0,p,T=>some (T,p)
 | n+1,p,T=>(rdN V sz p 8).bind fun x=>(addL T ((x.1:Nat),0,0)).bind fun T'=>bytesG V sz n x.2 T'
def storeG (V sz p:Nat) (T:List UInt8):Option (List UInt8×Nat):=
 (restG V p).bind fun q=>(rdN V sz q 16).bind fun a=>(rdN V sz a.2 16).bind fun c=>if c.1=65535-a.1 then bytesG V sz a.1 c.2 T else none
theorem bytesG_bd {V sz:Nat} : ∀ (n p:Nat) (T T':List UInt8) (q:Nat),bytesG V sz n p T=some (T',q)→p≤sz→q≤sz∧p≤q∧(T.length≤300→T'.length≤300):=by
 intro n
 induction n with
 | zero=>
  intro p T T' q h hp
  simp only [bytesG,Option.some.injEq,Prod.mk.injEq] at h
  obtain ⟨rfl,rfl⟩:=h
  exact ⟨hp,Nat.le_refl _,id⟩
 | succ n ih=>
  intro p T T' q h hp
  simp only [bytesG] at h
  rcases h1:rdN V sz p 8 with _ | ⟨x,r⟩
  ·
   rw [h1] at h; cases h
  ·
   rw [h1] at h
   simp only [Option.bind_some] at h
   have b1:=rdN_bd h1
   rcases h2:addL T ((x:Nat),0,0) with _ | T2
   ·
    rw [h2] at h; cases h
   ·
    rw [h2] at h
    simp only [Option.bind_some] at h
    obtain ⟨a1,a2,a3⟩:=ih r T2 T' q h b1.1
    exact ⟨a1,by omega,fun _=>a3 (addL_len h2)⟩
theorem restG_bd {V p q:Nat} (h:restG V p=some q):p≤q∧q=p+(8-p%8)%8:=by
 unfold restG at h
 split at h
 ·
  simp only [Option.some.injEq] at h; omega
 ·
  cases h
theorem storeG_bd {V sz p q:Nat} {T T':List UInt8} (h:storeG V sz p T=some (T',q)):q≤sz∧p≤q∧(T.length≤300→T'.length≤300):=by
 unfold storeG at h
 rcases h1:restG V p with _ | r
 ·
  rw [h1] at h; cases h
 rw [h1] at h
 simp only [Option.bind_some] at h
 rcases h2:rdN V sz r 16 with _ | ⟨a,r2⟩
 ·
  rw [h2] at h; cases h
 rw [h2] at h
 simp only [Option.bind_some] at h
 rcases h3:rdN V sz r2 16 with _ | ⟨c,r3⟩
 ·
  rw [h3] at h; cases h
 rw [h3] at h
 simp only [Option.bind_some] at h
 split at h
 ·
  have b1:=restG_bd h1
  have b2:=rdN_bd h2
  have b3:=rdN_bd h3
  obtain ⟨a1,a2,a3⟩:=bytesG_bd _ _ _ _ _ h b3.1
  exact ⟨a1,by omega,a3⟩
 ·
  cases h
def lbG (V sz:Nat):List Nat→Nat→List Int→Option (List Int×Nat)
 | [],p,l=>some (l,p)
 | i :: is,p,l=>(rdN V sz p 3).bind fun x=>lbG V sz is x.2 (l.set i ((x.1:Nat):Int))
def lenBkG (V sz many p:Nat):Option (List Int×Nat):=(lbG V sz (ordL.take many) p (List.replicate 19 0)).bind fun x=>if lensOk x.1=true then some x else none
theorem lbG_bd {V sz:Nat} : ∀ (is:List Nat) (p:Nat) (l l':List Int) (q:Nat),lbG V sz is p l=some (l',q)→p≤sz→q≤sz∧p≤q∧l'.length=l.length:=by
 intro is
 induction is with
 | nil=>
  intro p l l' q h hp
  simp only [lbG,Option.some.injEq,Prod.mk.injEq] at h
  obtain ⟨rfl,rfl⟩:=h
  exact ⟨hp,Nat.le_refl _,rfl⟩
 | cons i is ih=>
  intro p l l' q h hp
  simp only [lbG] at h
  rcases h1:rdN V sz p 3 with _ | ⟨x,r⟩
  ·
   rw [h1] at h; cases h
  ·
   rw [h1] at h
   simp only [Option.bind_some] at h
   have b1:=rdN_bd h1
   obtain ⟨a1,a2,a3⟩:=ih _ _ _ _ h b1.1
   exact ⟨a1,by omega,by rw [a3,List.length_set]⟩
theorem lenBkG_bd {V sz many p q:Nat} {l:List Int} (h:lenBkG V sz many p=some (l,q)) (hp:p≤sz):q≤sz∧p≤q∧lensOk l=true∧l.length=19:=by
 unfold lenBkG at h
 rcases h1:lbG V sz (ordL.take many) p (List.replicate 19 0) with _ | ⟨l1,q1⟩
 ·
  rw [h1] at h; cases h
 ·
  rw [h1] at h
  simp only [Option.bind_some] at h
  split at h
  ·
   simp only [Option.some.injEq,Prod.mk.injEq] at h
   obtain ⟨rfl,rfl⟩:=h
   obtain ⟨a1,a2,a3⟩:=lbG_bd _ _ _ _ _ h1 hp
   exact ⟨a1,a2,by assumption,by rw [a3]; simp⟩
  ·
   cases h
def addLn (V sz:Nat) (A:List Int) (k:Int) (q:Nat):Option (List Int×Nat):=
 if k=16 then (if A.length=0 then none else (rdN V sz q 2).bind fun x=>some (A++List.replicate (3+x.1) (A.getD (A.length-1) 0),x.2))
 else if k=17 then (rdN V sz q 3).bind fun x=>some (A++List.replicate (3+x.1) 0,x.2)
 else if k=18 then (rdN V sz q 7).bind fun x=>some (A++List.replicate (11+x.1) 0,x.2)
 else some (A++[k],q)
def lnF (V sz:Nat) (B:List Int) (n:Nat):Nat→Nat→List Int→Option (List Int×Nat)
 | 0,_,_=>none
 | f+1,p,A=>if A.length<n then (dec B V sz p).bind fun k=>(addLn V sz A k.1 k.2).bind fun x=>lnF V sz B n f x.2 x.1
  else if A.length=n then some (A,p) else none
def lnG (V sz:Nat) (B:List Int) (n p:Nat) (A:List Int):Option (List Int×Nat):=lnF V sz B n (sz+1-p) p A
theorem addLn_bd {V sz:Nat} {A A':List Int} {k:Int} {q r:Nat} (h:addLn V sz A k q=some (A',r)) (hq:q≤sz):r≤sz∧q≤r∧A.length<A'.length∧A'.length≤A.length+138:=by
 unfold addLn at h
 have key:∀ (bt c:Nat) (v:Int),bt≤7→c≤11→3≤c→(rdN V sz q bt).bind (fun x=>some (A++List.replicate (c+x.1) v,x.2))=some (A',r)→r≤sz∧q≤r∧A.length<A'.length∧A'.length≤A.length+138:=by
  intro bt c v hbt hc hc3 h
  rcases h1:rdN V sz q bt with _ | ⟨x,t⟩
  ·
   rw [h1] at h; cases h
  ·
   rw [h1] at h
   simp only [Option.bind_some,Option.some.injEq,Prod.mk.injEq] at h
   obtain ⟨rfl,rfl⟩:=h
   have b1:=rdN_bd h1
   have b2:2 ^ bt≤2 ^ 7:=Nat.pow_le_pow_right (by omega) hbt
   refine ⟨b1.1,by omega,?_,?_⟩ <;> simp only [List.length_append,List.length_replicate] <;> omega
 split at h
 ·
  split at h
  ·
   cases h
  ·
   exact key 2 3 _ (by omega) (by omega) (by omega) h
 ·
  split at h
  ·
   exact key 3 3 _ (by omega) (by omega) (by omega) h
  ·
   split at h
   ·
    exact key 7 11 _ (by omega) (by omega) (by omega) h
   ·
    simp only [Option.some.injEq,Prod.mk.injEq] at h
    obtain ⟨rfl,rfl⟩:=h
    exact ⟨hq,Nat.le_refl _,by simp,by simp⟩
theorem lnF_more {V sz:Nat} {B:List Int} {n:Nat} : ∀ (m f p:Nat) (A:List Int),sz+1-p≤m→sz+1-p≤f→p≤sz→lnF V sz B n f p A=lnF V sz B n (sz+1-p) p A:=by
 intro m
 induction m with
 | zero=>intro f p A h1 h2 h3; omega
 | succ m ih=>
  intro f p A h1 h2 h3
  obtain ⟨f',rfl⟩:∃ g,f=g+1:=⟨f-1,by omega⟩
  obtain ⟨m',hm⟩:∃ g,sz+1-p=g+1:=⟨sz-p,by omega⟩
  rw [hm]
  simp only [lnF]
  split
  ·
   rcases hd:dec B V sz p with _ | ⟨i,q⟩
   ·
    rfl
   ·
    have hb:=dec_bd hd
    simp only [Option.bind_some]
    rcases ha:addLn V sz A i q with _ | ⟨A',r⟩
    ·
     rfl
    ·
     have hr:=addLn_bd ha hb.1
     simp only [Option.bind_some]
     rw [ih f' r A' (by omega) (by omega) hr.1,ih m' r A' (by omega) (by omega) hr.1]
  ·
   rfl
theorem lnG_less {V sz:Nat} {B:List Int} {n p:Nat} {A:List Int} (hp:p≤sz) (h:A.length<n):lnG V sz B n p A=(dec B V sz p).bind fun k=>(addLn V sz A k.1 k.2).bind fun x=>lnG V sz B n x.2 x.1:=by
 unfold lnG
 obtain ⟨m,hm⟩:∃ g,sz+1-p=g+1:=⟨sz-p,by omega⟩
 rw [hm]
 simp only [lnF,if_pos h]
 rcases hd:dec B V sz p with _ | ⟨i,q⟩
 ·
  rfl
 ·
  have hb:=dec_bd hd
  simp only [Option.bind_some]
  rcases ha:addLn V sz A i q with _ | ⟨A',r⟩
  ·
   rfl
  ·
   have hr:=addLn_bd ha hb.1
   simp only [Option.bind_some]
   exact lnF_more m m r A' (by omega) (by omega) hr.1
theorem lnG_same {V sz:Nat} {B:List Int} {n p:Nat} {A:List Int} (hp:p≤sz) (h:¬ A.length<n):lnG V sz B n p A=if A.length=n then some (A,p) else none:=by
 unfold lnG
 obtain ⟨m,hm⟩:∃ g,sz+1-p=g+1:=⟨sz-p,by omega⟩
 rw [hm]
 simp only [lnF,if_neg h]
theorem lnF_bd {V sz:Nat} {B:List Int} {n:Nat} : ∀ (f p:Nat) (A A':List Int) (q:Nat),lnF V sz B n f p A=some (A',q)→p≤sz→q≤sz∧p≤q∧A'.length=n:=by
 intro f
 induction f with
 | zero=>intro p A A' q h; simp [lnF] at h
 | succ f ih=>
  intro p A A' q h hp
  simp only [lnF] at h
  split at h
  ·
   rcases hd:dec B V sz p with _ | ⟨i,r⟩
   ·
    rw [hd] at h; cases h
   ·
    rw [hd] at h
    have hb:=dec_bd hd
    simp only [Option.bind_some] at h
    rcases ha:addLn V sz A i r with _ | ⟨A2,r2⟩
    ·
     rw [ha] at h; cases h
    ·
     rw [ha] at h
     have hr:=addLn_bd ha hb.1
     simp only [Option.bind_some] at h
     obtain ⟨h1,h2,h3⟩:=ih _ _ _ _ h hr.1
     exact ⟨h1,by omega,h3⟩
  ·
   split at h
   ·
    simp only [Option.some.injEq,Prod.mk.injEq] at h
    obtain ⟨rfl,rfl⟩:=h
    exact ⟨hp,Nat.le_refl _,by assumption⟩
   ·
    cases h
theorem lnG_bd {V sz:Nat} {B:List Int} {n p q:Nat} {A A':List Int} (h:lnG V sz B n p A=some (A',q)) (hp:p≤sz):q≤sz∧p≤q∧A'.length=n:=lnF_bd _ _ _ _ _ h hp
def booksG (V sz n:Nat) (A:List Int) (p:Nat) (T:List UInt8):Option (List UInt8×Nat):=
 if lensOk (A.take n)=true then (if lensOk (A.drop n)=true then tokG V sz (A.take n) (A.drop n) p T else none) else none
def ownG (V sz p:Nat) (T:List UInt8):Option (List UInt8×Nat):=
 (rdN V sz p 5).bind fun a=>(rdN V sz a.2 5).bind fun c=>if a.1+257≤286∧c.1+1≤30 then
  (rdN V sz c.2 4).bind fun m=>(lenBkG V sz (m.1+4) m.2).bind fun B=>(lnG V sz B.1 (a.1+257+(c.1+1)) B.2 []).bind fun A=>booksG V sz (a.1+257) A.1 A.2 T else none
def fixG (V sz p:Nat) (T:List UInt8):Option (List UInt8×Nat):=tokG V sz (fixL 288) (List.replicate 32 5) p T
def kindG (V sz k p:Nat) (T:List UInt8):Option (List UInt8×Nat):=
 if k=0 then storeG V sz p T else if k=1 then fixG V sz p T else if k=2 then ownG V sz p T else none
theorem booksG_bd {V sz n p q:Nat} {A:List Int} {T T':List UInt8} (h:booksG V sz n A p T=some (T',q)):q≤sz∧p<q∧(T.length≤300→T'.length≤300):=by
 unfold booksG at h
 split at h
 ·
  split at h
  ·
   exact tokG_bd h
  ·
   cases h
 ·
  cases h
theorem ownG_bd {V sz p q:Nat} {T T':List UInt8} (h:ownG V sz p T=some (T',q)):q≤sz∧p≤q∧(T.length≤300→T'.length≤300):=by
 unfold ownG at h
 rcases h1:rdN V sz p 5 with _ | ⟨a,q1⟩
 ·
  rw [h1] at h; cases h
 rw [h1] at h
 simp only [Option.bind_some] at h
 rcases h2:rdN V sz q1 5 with _ | ⟨c,q2⟩
 ·
  rw [h2] at h; cases h
 rw [h2] at h
 simp only [Option.bind_some] at h
 split at h
 ·
  rcases h3:rdN V sz q2 4 with _ | ⟨m,q3⟩
  ·
   rw [h3] at h; cases h
  rw [h3] at h
  simp only [Option.bind_some] at h
  rcases h4:lenBkG V sz (m+4) q3 with _ | ⟨B,q4⟩
  ·
   rw [h4] at h; cases h
  rw [h4] at h
  simp only [Option.bind_some] at h
  rcases h5:lnG V sz B (a+257+(c+1)) q4 [] with _ | ⟨A,q5⟩
  ·
   rw [h5] at h; cases h
  rw [h5] at h
  simp only [Option.bind_some] at h
  have b1:=rdN_bd h1
  have b2:=rdN_bd h2
  have b3:=rdN_bd h3
  have b4:=lenBkG_bd h4 b3.1
  have b5:=lnG_bd h5 b4.1
  have b6:=booksG_bd h
  exact ⟨b6.1,by omega,b6.2.2⟩
 ·
  cases h
theorem kindG_bd {V sz k p q:Nat} {T T':List UInt8} (h:kindG V sz k p T=some (T',q)):q≤sz∧p≤q∧(T.length≤300→T'.length≤300):=by
 unfold kindG at h
 split at h
 ·
  exact storeG_bd h
 ·
  split at h
  ·
   have:=tokG_bd h
   exact ⟨this.1,by omega,this.2.2⟩
  ·
   split at h
   ·
    exact ownG_bd h
   ·
    cases h
def partsF (V sz:Nat):Nat→Nat→List UInt8→Option (List UInt8×Nat)
 | 0,_,_=>none
 | f+1,p,T=>(rdN V sz p 1).bind fun a=>(rdN V sz a.2 2).bind fun k=>(kindG V sz k.1 k.2 T).bind fun r=>if a.1=1 then some r else partsF V sz f r.2 r.1
def partsG (V sz p:Nat) (T:List UInt8):Option (List UInt8×Nat):=partsF V sz (sz+1-p) p T
def wholeG (V sz p:Nat) (T:List UInt8):Option (List UInt8×Nat):=(partsG V sz p T).bind fun r=>(restG V r.2).bind fun q=>some (r.1,q)
theorem partsF_more {V sz:Nat} : ∀ (n f p:Nat) (T:List UInt8),sz+1-p≤n→sz+1-p≤f→partsF V sz f p T=partsF V sz (sz+1-p) p T:=by
 intro n
 induction n with
 | zero=>
  intro f p T h1 h2
  have e:sz+1-p=0:=by omega
  rw [e]
  cases f with
  | zero=>rfl
  | succ f=>
   have hd:rdN V sz p 1=none:=rdN_no (by omega)
   simp only [partsF,hd,Option.bind_none]
 | succ n ih=>
  intro f p T h1 h2
  rcases hd:rdN V sz p 1 with _ | ⟨a,q⟩
  ·
   cases f with
   | zero=>rw [show sz+1-p=0 by omega]
   | succ f=>
    rcases hm:sz+1-p with _ | m
    ·
     simp only [partsF,hd,Option.bind_none]
    ·
     simp only [partsF,hd,Option.bind_none]
  ·
   have hb:=rdN_bd hd
   obtain ⟨f',rfl⟩:∃ g,f=g+1:=⟨f-1,by omega⟩
   obtain ⟨m,hm⟩:∃ g,sz+1-p=g+1:=⟨sz-p,by omega⟩
   rw [hm]
   simp only [partsF,hd,Option.bind_some]
   rcases hk:rdN V sz q 2 with _ | ⟨k,q2⟩
   ·
    rfl
   ·
    have hb2:=rdN_bd hk
    simp only [Option.bind_some]
    rcases hr:kindG V sz k q2 T with _ | ⟨T',q3⟩
    ·
     rfl
    ·
     have hb3:=kindG_bd hr
     simp only [Option.bind_some]
     split
     ·
      rfl
     ·
      rw [ih f' q3 T' (by omega) (by omega),ih m q3 T' (by omega) (by omega)]
theorem partsG_step {V sz p:Nat} {T:List UInt8} : partsG V sz p T=(rdN V sz p 1).bind fun a=>(rdN V sz a.2 2).bind fun k=>(kindG V sz k.1 k.2 T).bind fun r=>if a.1=1 then some r else partsG V sz r.2 r.1:=by
 rcases hd:rdN V sz p 1 with _ | ⟨a,q⟩
 ·
  unfold partsG
  rcases hm:sz+1-p with _ | m
  ·
   rfl
  ·
   simp only [partsF,hd,Option.bind_none]
 ·
  have hb:=rdN_bd hd
  unfold partsG
  obtain ⟨m,hm⟩:∃ g,sz+1-p=g+1:=⟨sz-p,by omega⟩
  rw [hm]
  simp only [partsF,hd,Option.bind_some]
  rcases hk:rdN V sz q 2 with _ | ⟨k,q2⟩
  ·
   rfl
  ·
   have hb2:=rdN_bd hk
   simp only [Option.bind_some]
   rcases hr:kindG V sz k q2 T with _ | ⟨T',q3⟩
   ·
    rfl
   ·
    have hb3:=kindG_bd hr
    simp only [Option.bind_some]
    split
    ·
     rfl
    ·
     exact partsF_more m m q3 T' (by omega) (by omega)
theorem partsF_bd {V sz:Nat} : ∀ (f p:Nat) (T T':List UInt8) (q:Nat),partsF V sz f p T=some (T',q)→q≤sz∧p<q∧(T.length≤300→T'.length≤300):=by
 intro f
 induction f with
 | zero=>intro p T T' q h; simp [partsF] at h
 | succ f ih=>
  intro p T T' q h
  simp only [partsF] at h
  rcases hd:rdN V sz p 1 with _ | ⟨a,q1⟩
  ·
   rw [hd] at h; cases h
  rw [hd] at h
  simp only [Option.bind_some] at h
  rcases hk:rdN V sz q1 2 with _ | ⟨k,q2⟩
  ·
   rw [hk] at h; cases h
  rw [hk] at h
  simp only [Option.bind_some] at h
  rcases hr:kindG V sz k q2 T with _ | ⟨T2,q3⟩
  ·
   rw [hr] at h; cases h
  rw [hr] at h
  simp only [Option.bind_some] at h
  have b1:=rdN_bd hd
  have b2:=rdN_bd hk
  have b3:=kindG_bd hr
  split at h
  ·
   simp only [Option.some.injEq,Prod.mk.injEq] at h
   obtain ⟨rfl,rfl⟩:=h
   exact ⟨b3.1,by omega,b3.2.2⟩
  ·
   have b4:=ih _ _ _ _ h
   exact ⟨b4.1,by omega,fun h=>b4.2.2 (b3.2.2 h)⟩
theorem partsG_bd {V sz p q:Nat} {T T':List UInt8} (h:partsG V sz p T=some (T',q)):q≤sz∧p<q∧(T.length≤300→T'.length≤300):=partsF_bd _ _ _ _ _ h
def RF (w:World) (b:Nat) (s:ByteArray) (p:Nat) (f:Bool):Prop:=Three w b (.string s) (.int .i64 (min p (8*s.size):Nat)) (.bool f)
theorem RF.lt {w:World} {b p:Nat} {s:ByteArray} {f:Bool} (h:RF w b s p f):b<w.heap.size:=h.2.2.2.2.2.2
theorem RF.kept {w w':World} {b p:Nat} {s:ByteArray} {f:Bool} (h:RF w b s p f) (hb:Below (b+1) w w'):RF w' b s p f:=Three.kept h hb
theorem rf_rdr {w:World} {b p:Nat} {s:ByteArray} (h:RF w b s p false) (hp:p≤8*s.size):Rdr w b s p:=by
 unfold Rdr
 rw [decide_eq_false (by omega)]
 exact h
theorem rdr_rf {w:World} {b p:Nat} {s:ByteArray} (h:Rdr w b s p):RF w b s p (decide (8*s.size<p)):=h
theorem RF.cut {w:World} {b p:Nat} {s:ByteArray} (h:RF w b s p true):∃ q,q≤8*s.size∧RF w b s q true:=⟨min p (8*s.size),Nat.min_le_right _ _,by unfold RF at h ⊢; rw [Nat.min_eq_left (Nat.min_le_right p (8*s.size))]; exact h⟩
theorem RF.setBad {w:World} {b p:Nat} {s:ByteArray} {f:Bool} (h:RF w b s p f):RF (w.setCell ⟨b,2,none⟩ (.bool true)) b s p true:=Three.set2 h _
theorem RF.bad {w:World} {b p:Nat} {s:ByteArray} {f:Bool} (h:RF w b s p f):w.cell? ⟨b,2,none⟩=some (.bool f)∧w.frozen? ⟨b,2,none⟩=false:=⟨h.2.2.1,h.2.2.2.2.2.1⟩
theorem num_rf (b p c:Nat) (f:Bool) (s:ByteArray) (w:World) (h:RF w b s p f) (hf:f=false→p≤8*s.size) (hs:s.size≤2000000) (hc:c≤16) :
  Calls Tryz.prog 232 #[.pointer (some ⟨b,0,none⟩),.int .i64 (c:Int)] w fun e w'=>e = .returned (.int .i64 (numB s/2 ^ p%2 ^ c:Nat))∧RF w' b s (p+c) (f || decide (8*s.size<p+c))∧Keep1 b w w':=by
 cases f
 ·
  exact (srcNum_any b p c s w (rf_rdr h (hf rfl)) hs hc).mono fun e w' ⟨h1,h2,h3⟩=>⟨h1,by rw [Bool.false_or]; exact rdr_rf h2,h3⟩
 ·
  exact (badNum_any b p c s w h hs hc).mono fun e w' ⟨h1,h2,h3⟩=>⟨h1,by rw [Bool.true_or]; exact h2,h3⟩
theorem whole_rf (b p:Nat) (f:Bool) (s:ByteArray) (w:World) (h:RF w b s p f) (hp:p≤8*s.size) (hs:s.size≤2000000) :
  Calls Tryz.prog 219 #[.pointer (some ⟨b,0,none⟩)] w fun e w'=>e = .returned (.bool (decide (numB s/2 ^ p%2 ^ ((8-p%8)%8)=0)))∧RF w' b s (p+(8-p%8)%8) f∧Keep1 b w w':=by
 cases f
 ·
  exact (srcWhole_any b p s w (rf_rdr h hp) hs hp).mono fun e w' ⟨h1,h2,h3⟩=>⟨h1,by have:=rdr_rf h2; rwa [decide_eq_false (by omega)] at this,h3⟩
 ·
  exact (badWhole_any b p s w h hs hp).mono fun e w' ⟨h1,h2,h3⟩=>⟨h1,h2,h3⟩
set_option maxHeartbeats 800000 in
theorem symbol_bad (a ac:Option Addr) (cap cc n b p:Nat) (s:ByteArray) (w:World) (h:RF w b s p true) :
  Calls Tryz.prog 254 #[.pointer (some ⟨b,0,none⟩),.slice a n cap,.slice ac n cc] w fun e w'=>e = .returned (.int .i64 (-1))∧RF w' b s p true∧Keep1 b w w':=by
 have HR:=hide h
 obtain ⟨c2,f2⟩:=h.bad
 have hlt:=h.lt
 clear h
 go_enter Tryz.func254,Tryz.ntmps254
 go_wp2_with fail
 go_loopw [6,7,8,9] (fun _ _ lg _ wr=>lg = .int .i64 1∧wr=w) (fun _ _ _ _ _=>0)
 case atStart=>exact ⟨rfl,rfl⟩
 case round=>
  obtain ⟨rfl,rfl⟩:=hrel
  go_wp2
  go_ret
  exact ⟨rfl,(unhide HR).setBad,keep1_set0 _ _ _ _⟩
def SymAt (w:World) (b:Nat) (s:ByteArray) (d:Option (Int×Nat)) (e:Ending) (w':World):Prop:=
 Keep1 b w w'∧match d with
  | none=>∃ x q,e = .returned (.int .i64 x)∧RF w' b s q true
  | some (i,q)=>e = .returned (.int .i64 i)∧Rdr w' b s q
set_option maxHeartbeats 3200000 in
theorem symbol_at (a ac:Option Addr) (cap cc n b p:Nat) (l:List Int) (s:ByteArray) (w:World) (hn:l.length=n) (hok:lensOk l=true)
  (hs:s.size≤2000000) (hr:Rdr w b s p) (hp:p≤8*s.size) (hrl:∀ W,Keep1 b w W→IRow W a l) (hrc:∀ W,Keep1 b w W→IRow W ac (outN l 15).2) :
  Calls Tryz.prog 254 #[.pointer (some ⟨b,0,none⟩),.slice a n cap,.slice ac n cc] w (SymAt w b s (dec l (numB s) (8*s.size) p)):=by
 have HN:=hide hn
 have HS:=hide hs
 have HOK:=hide hok
 have HRL:=hide hrl
 have HRC:=hide hrc
 have hnI:(n:Int)≤300:=by have:=lensOk_len hok; omega
 clear hn hs hok hrl hrc
 go_enter Tryz.func254,Tryz.ntmps254
 go_wp2_with fail
 go_loopw [6,7,8,9] (fun _ c lg _ wr=>∃ (N:Nat) (x:Int),N≤15∧lg = .int .i64 ((N:Int)+1)∧c = .int .i64 x∧Keep1 b w wr∧((x=(cd (numB s) p N:Nat)∧nx l N≤cd (numB s) p N∧Rdr wr b s (p+N)∧p+N≤8*s.size∧dec l (numB s) (8*s.size) p=decF l (numB s) (8*s.size) p (15-N) N)∨(dec l (numB s) (8*s.size) p=none∧∃ qv,RF wr b s qv true))) (fun _ _ lg _ _=>16-(intOf lg).toNat)
 case atStart=>exact ⟨0,0,by omega,rfl,rfl,Keep1.refl _ _,.inl ⟨rfl,Nat.le_refl _,hr,by omega,rfl⟩⟩
 case round=>
  obtain ⟨N,x,hN,rfl,rfl,hkp,hcase⟩:=hrel
  clear hr hp
  have hNI:(N:Int)≤15:=by omega
  rcases hcase with ⟨rfl,hge,hrd,hpN,hdec⟩ | ⟨hno,qv,hRT⟩
  ·
   have h3:=hrd.at hpN
   obtain ⟨q0,q1,q2,g0,g1,g2,hb3⟩:=h3
   have HP:=hide hpN
   have HGE:=hide hge
   have HD:=hide hdec
   have c1:=hide (cd_bd (numB s) p N hN)
   have cI:(cd (numB s) p N:Int)≤32768:=by have:=unhide c1; omega
   clear hpN hge hdec
   by_cases hlt:N<15
   ·
    have hd15:decide ((N:Int)+1≤15)=true:=decide_eq_true (by omega)
    have hbit:(numB s/2 ^ (p+N)%2:Nat)=bitV (numB s) (p+N):=rfl
    have hcd:Hid (2*(cd (numB s) p N:Int)+(bitV (numB s) (p+N):Int)=(cd (numB s) p (N+1):Int)):=by
     show 2*(cd (numB s) p N:Int)+(bitV (numB s) (p+N):Int)=(cd (numB s) p (N+1):Int)
     simp only [cd]; omega
    have hcg:Hid (2*nx l N≤cd (numB s) p (N+1)):=by
     show 2*nx l N≤cd (numB s) p (N+1)
     have:=unhide HGE
     simp only [cd]; omega
    have Hhit:=hide (fun h1 h2=>decF_hit (l:=l) (V:=numB s) (sz:=8*s.size) (p:=p) (f:=14-N) (n:=N) h1 h2)
    have Hnext:=hide (fun h1 h2=>decF_next (l:=l) (V:=numB s) (sz:=8*s.size) (p:=p) (f:=14-N) (n:=N) h1 h2)
    have Hshort:=hide (fun h1=>decF_short (l:=l) (V:=numB s) (sz:=8*s.size) (p:=p) (f:=14-N) (n:=N) h1)
    have e15:15-N=(14-N)+1:=by omega
    have e14:14-N=15-(N+1):=by omega
    rw [e15] at HD
    have bI:(bitV (numB s) (p+N):Int)≤1:=by omega
    clear g0 g1 g2 q0 q1 hb3
    go_wp2_with fail
    refine (srcBit_any b (p+N) s _ hrd (unhide HS)).mono ?_
    rintro e x1 ⟨rfl,hrd1,hk1⟩
    rw [hbit]
    have hkp1:=hkp.trans hk1
    have HIL:=hide (unhide HRL x1 hkp1)
    have HIC:=hide (unhide HRC x1 hkp1)
    have HKP:=hide hkp1
    have HRD:=hide hrd1
    clear hrd hkp hk1 hkp1 hrd1 hbit q2
    go_wp2_with fail
    rw [unhide hcd]
    go_loopw [6,9] (fun _ i wr=>∃ k:Nat,k≤n∧i = .int .i64 k∧wr=x1∧∀ j,j<k→l.getD j 0=(N:Int)+1→codeAt l j≠cd (numB s) p (N+1)) (fun _ i _=>n-(intOf i).toNat)
    case atStart=>exact ⟨0,Nat.zero_le _,rfl,rfl,fun j hj=>absurd hj (by omega)⟩
    case round=>
     obtain ⟨k,hk,rfl,rfl,hnot⟩:=hrel
     have HNT:=hide hnot
     clear hnot
     by_cases hkn:k<n
     ·
      have hkl:Hid (k<l.length):=by show k<l.length; rw [unhide HN]; exact hkn
      obtain ⟨g,o,rfl,hg,hcl⟩:=unhide HIL (by rw [unhide HN]; omega)
      have d0:=hcl k (by rw [unhide HN]; exact hkn)
      obtain ⟨g',o',rfl,hg',hcc⟩:=unhide HIC (by rw [outN_len,unhide HN]; omega)
      have d1:=hcc k (by rw [outN_len,unhide HN]; exact hkn)
      have hcg2:=hide (codes_get (unhide HOK) (unhide hkl))
      have Hk:=hide hk
      have hY:=hide (fun h=>codeAt_lt (unhide HOK) (unhide hkl) h)
      have hone:=hide (fun (i:Nat) (h1:l.getD i 0=l.getD k 0) (h2:codeAt l i=codeAt l k)=>sym_one h1 h2)
      clear hcl hcc hk HIL HIC
      generalize hy':l.getD k 0=y at *
      have EY:=hide hy'
      clear hy'
      by_cases hy:y=(N:Int)+1
      ·
       have hcg3:(outN l 15).2.getD k 0=(codeAt l k:Int):=by have:=unhide hcg2; rw [if_pos (by omega)] at this; exact this
       rw [hcg3] at d1
       subst hy
       by_cases hc:codeAt l k=cd (numB s) p (N+1)
       ·
        have hlt2:=unhide hY (by omega)
        have eN:((N:Int)+1).toNat=N+1:=by omega
        rw [eN] at hlt2
        rw [hc] at d1
        have HRES:Hid (SymAt w b s (dec l (numB s) (8*s.size) p) (.returned (.int .i64 (k:Int))) wr):=by
         show SymAt w b s (dec l (numB s) (8*s.size) p) (.returned (.int .i64 (k:Int))) wr
         refine ⟨unhide HKP,?_⟩
         by_cases hsh:8*s.size<p+N+1
         ·
          rw [unhide HD,unhide Hshort hsh]
          exact ⟨_,_,rfl,(unhide HRD).three hsh⟩
         ·
          have hlt3:cd (numB s) p (N+1)<nx l (N+1):=by rw [←hc]; exact hlt2.2
          rw [unhide HD,unhide Hhit hsh hlt3]
          obtain ⟨i,hi,h1,h2,h3⟩:=sym_there (l:=l) hlt (unhide hcg) hlt3
          have:i=k:=sym_one (h1.trans (unhide EY).symm) (h2.trans hc.symm)
          subst this
          exact ⟨by rw [h3],unhide HRD⟩
        clear hlt2
        generalize cd (numB s) p (N+1)=X at *
        go_wp2
        go_ret
        exact unhide HRES
       ·
        have g1:((codeAt l k:Int) == (cd (numB s) p (N+1):Int))=false:=by rw [beq_eq_false_iff_ne]; omega
        have HNT2:Hid (∀ j,j<k+1→l.getD j 0=(N:Int)+1→codeAt l j≠cd (numB s) p (N+1)):=by
         show ∀ j,j<k+1→l.getD j 0=(N:Int)+1→codeAt l j≠cd (numB s) p (N+1)
         intro j hj h1
         by_cases e:j=k
         ·
          subst e; exact hc
         ·
          exact unhide HNT j (by omega) h1
        go_wp2
        go_roundw
        case rel=>exact ⟨k+1,by have:=unhide Hk; omega,by go_num,by first | rfl | trivial,unhide HNT2⟩
        case measure=>simp [intOf]; omega
      ·
       have g1:(y == (N:Int)+1)=false:=by simpa using hy
       have HNT2:Hid (∀ j,j<k+1→l.getD j 0=(N:Int)+1→codeAt l j≠cd (numB s) p (N+1)):=by
        show ∀ j,j<k+1→l.getD j 0=(N:Int)+1→codeAt l j≠cd (numB s) p (N+1)
        intro j hj h1
        by_cases e:j=k
        ·
         subst e
         rw [unhide EY] at h1
         exact absurd h1 hy
        ·
         exact unhide HNT j (by omega) h1
       go_wp2
       go_roundw
       case rel=>exact ⟨k+1,by have:=unhide Hk; omega,by go_num,by first | rfl | trivial,unhide HNT2⟩
       case measure=>simp [intOf]; omega
     ·
      have hkl:k=l.length:=by have:=unhide HN; omega
      subst hkl
      have HC2:Hid ((cd (numB s) p (N+1):Int)=((cd (numB s) p (N+1):Nat):Int)∧((nx l (N+1)≤cd (numB s) p (N+1)∧Rdr wr b s (p+(N+1))∧p+(N+1)≤8*s.size∧dec l (numB s) (8*s.size) p=decF l (numB s) (8*s.size) p (15-(N+1)) (N+1))∨(dec l (numB s) (8*s.size) p=none∧∃ qv,RF wr b s qv true))):=by
       refine ⟨rfl,?_⟩
       by_cases hsh:8*s.size<p+N+1
       ·
        exact .inr ⟨by rw [unhide HD,unhide Hshort hsh],_,(unhide HRD).three hsh⟩
       ·
        have hge:nx l (N+1)≤cd (numB s) p (N+1):=by
         rcases Nat.lt_or_ge (cd (numB s) p (N+1)) (nx l (N+1)) with h | h
         ·
          obtain ⟨i,hi,h1,h2,h3⟩:=sym_there (l:=l) hlt (unhide hcg) h
          exact absurd h2 (unhide HNT i hi h1)
         ·
          exact h
        exact .inl ⟨hge,unhide HRD,by omega,by rw [unhide HD,unhide Hnext hsh (by omega),e14]⟩
      clear HIL HIC
      go_wp2
      go_roundw
      case rel=>
       refine ⟨N+1,(cd (numB s) p (N+1):Nat),by omega,by go_num,rfl,unhide HKP,?_⟩
       rcases (unhide HC2).2 with h | h
       ·
        exact .inl ⟨rfl,h⟩
       ·
        exact .inr h
      case measure=>simp [intOf]; omega
   ·
    obtain rfl:N=15:=by omega
    have Hn:Hid (dec l (numB s) (8*s.size) p=none):=unhide HD
    have h3':=hide (rdr_rf hrd)
    have HKP:=hide hkp
    clear hrd hkp
    go_wp2
    go_ret
    unfold SymAt
    rw [unhide Hn]
    exact ⟨(unhide HKP).trans (keep1_set0 _ _ _ _),_,_,rfl,(unhide h3').setBad⟩
  ·
   have h3:Three wr b (.string s) (.int .i64 (min qv (8*s.size):Nat)) (.bool true):=hRT
   have h3':=hide hRT
   have HKP:=hide hkp
   have Hn:=hide hno
   obtain ⟨q0,q1,q2,g0,g1,g2,hb3⟩:=h3
   clear hkp hno
   by_cases hlt:(N:Int)<15
   ·
    have hd15:decide ((N:Int)+1≤15)=true:=decide_eq_true (by omega)
    go_wp2
    go_ret
    unfold SymAt
    rw [unhide Hn]
    exact ⟨(unhide HKP).trans (keep1_set0 _ _ _ _),_,_,rfl,(unhide h3').setBad⟩
   ·
    have hd15:decide ((N:Int)+1≤15)=false:=decide_eq_false (by omega)
    go_wp2
    go_ret
    unfold SymAt
    rw [unhide Hn]
    exact ⟨(unhide HKP).trans (keep1_set0 _ _ _ _),_,_,rfl,(unhide h3').setBad⟩
end Go.Proofs.YtkdlcomfpffhhaaGreatDoor

/- Of what the proof is made: 3 texts, one behind the other. -/
import Derived.Test.YtkdlcomfpffhhaaGreatDoorM26
import Derived.Test.YtkdlcomfpffhhaaGreatDoorM2
import Derived.Test.YtkdlcomfpffhhaaGreatDoorM4
import Derived.Deep.RegionHeld3
namespace Go.Proofs.YtkdlcomfpffhhaaGreatDoor
open Go.RowKit
set_option maxRecDepth 100000
def TinyF (l:List Fl):Prop:=∀ e∈l,e.p.size≤1000∧e.t.size≤1000
theorem TinyF.app {a b:List Fl} (h:TinyF a) (k:TinyF b):TinyF (a++b):=fun e he=>by
 rcases List.mem_append.1 he with x | x
 ·
  exact h e x
 ·
  exact k e x
theorem TinyF.take {l:List Fl} (h:TinyF l) (k:Nat):TinyF (l.take k):=fun e he=>h e (List.mem_of_mem_take he)
theorem TinyF.drop {l:List Fl} (h:TinyF l) (k:Nat):TinyF (l.drop k):=fun e he=>h e (List.mem_of_mem_drop he)
theorem flat_take (l:List Fl) (k:Nat):(l.take k).flatMap encF=(l.flatMap encF).take (k*2):=by
 induction l generalizing k with
 | nil=>simp
 | cons x l ih=>
  cases k with
  | zero=>simp
  | succ k=>
   rw [List.take_succ_cons,List.flatMap_cons,List.flatMap_cons,ih,show (k+1)*2=(encF x).length+k*2 by rw [encF_len]; omega,List.take_length_add_append]
theorem flat_drop (l:List Fl) (k:Nat):(l.drop k).flatMap encF=(l.flatMap encF).drop (k*2):=by
 induction l generalizing k with
 | nil=>simp
 | cons x l ih=>
  cases k with
  | zero=>simp
  | succ k=>
   rw [List.drop_succ_cons,List.flatMap_cons,ih,show (k+1)*2=(encF x).length+k*2 by rw [encF_len]; omega,List.drop_length_add_append]
theorem row_news {w:World} {g:Nat} {l:List Fl} (h:∀ j,j<l.length*2→w.cell? ⟨g,j,none⟩=(l.flatMap encF)[j]?) (k:Nat):∀ j u,((l.drop k).flatMap encF)[j]?=some u→w.cell? ((⟨g,k*2,none⟩:Addr).add j)=some u:=by
 intro j u hj
 rw [flat_drop,List.getElem?_drop] at hj
 have hlt:k*2+j<(l.flatMap encF).length:=(List.getElem?_eq_some_iff.1 hj).1
 rw [flatG_len encF_len] at hlt
 have e:(⟨g,k*2,none⟩:Addr).add j=⟨g,k*2+j,none⟩:=by unfold Addr.add; split <;> simp_all
 rw [e,h _ hlt,hj]
theorem encs_one (l:List Fl):∀ u∈l.flatMap encF,u.oneCell'=true:=fun u hu=>by
 obtain ⟨x,_,hx⟩:=List.mem_flatMap.1 hu
 exact encF_one x u hx
def FBlk (w:World) (g:Nat) (l:List Fl):Prop:=g<w.heap.size∧∀ j,j<l.length*2→w.cell? ⟨g,j,none⟩=(l.flatMap encF)[j]?
theorem FBlk.later {w w':World} {g:Nat} {l:List Fl} (h:FBlk w g l) (hb:Below w.heap.size w w'):FBlk w' g l:=⟨Nat.lt_of_lt_of_le h.1 hb.size,fun j hj=>by rw [hb.cell (p:=⟨g,j,none⟩) h.1]; exact h.2 j hj⟩
theorem FBlk.at {w:World} {g:Nat} {l:List Fl} (h:FBlk w g l) (i:Nat) (hi:i<l.length):w.cell? ⟨g,i*2,none⟩=some (.string (l.getD i default).p):=by
 have e:=flat_get encF_len l default i 0 hi (by omega)
 rw [Nat.add_zero] at e
 rw [h.2 _ (by omega),e]
 rfl
theorem own_fblk {w:World} {base g cap:Nat} {l:List Fl} (h:FOwn w base (.slice (some ⟨g,0,none⟩) l.length cap) l):FBlk w g l:=by
 refine ⟨(World.ownsRow.lt h g rfl).2,fun j hj=>?_⟩
 rw [World.ownsRow.cellAt h j hj]
structure PSt (w:World) (p t:ByteArray) (W:World):Prop where
 below:Below w.heap.size w W
 lt:w.heap.size<W.heap.size
 c0:W.cell? ⟨w.heap.size,0,none⟩=some (.string p)
 c1:W.cell? ⟨w.heap.size,1,none⟩=some (.string t)
theorem PSt.drew {w W:World} {p t:ByteArray} (h:PSt w p t W):PSt w p t W.drew:=⟨h.1.drew,h.2,h.3,h.4⟩
theorem PSt.drewN {w W:World} {p t:ByteArray} (h:PSt w p t W) (n:Nat):PSt w p t (W.drewN n):=⟨below_drewN h.1 n,h.2,h.3,h.4⟩
theorem PSt.alloc {w W:World} {p t:ByteArray} (h:PSt w p t W) (o:Obj):PSt w p t (W.alloc o):=by
 have hb:Below W.heap.size W (W.alloc o):=(Below.refl _ _).alloc (Nat.le_refl _) _
 exact ⟨h.1.alloc (Nat.le_of_lt h.2) o,Nat.lt_of_lt_of_le h.2 hb.size,by rw [hb.cell (p:=⟨w.heap.size,0,none⟩) h.2]; exact h.3,by rw [hb.cell (p:=⟨w.heap.size,1,none⟩) h.2]; exact h.4⟩
theorem PSt.grown {w W W':World} {p t:ByteArray} {v:Value} {n:Nat} {xs:List Value} (h:PSt w p t W) (ho:W.ownsRow (w.heap.size+1) 28 2 v n xs) (hg:W.grownBy W' v.ownBlock):PSt w p t W':=by
 have hne:some w.heap.size≠v.ownBlock:=fun e=>by have:=(World.ownsRow.lt ho _ e.symm).1; omega
 have hk:=hg.block w.heap.size h.2 hne
 exact ⟨h.1.grown hg (Nat.le_of_lt h.2) (fun k e=>by have:=(World.ownsRow.lt ho k e).1; omega),Nat.lt_of_lt_of_le h.2 hg.size,by rw [World.cell?_of_block (w:=W) hk (a:=⟨w.heap.size,0,none⟩)]; exact h.3,by rw [World.cell?_of_block (w:=W) hk (a:=⟨w.heap.size,1,none⟩)]; exact h.4⟩
def OneB (W:World) (b G:Nat) (p t:ByteArray):Prop:=b≤G∧G<W.heap.size∧W.cell? ⟨G,0,none⟩=some (.string p)∧W.cell? ⟨G,1,none⟩=some (.string t)
theorem OneB.new (W:World) (b:Nat) (hb:b≤W.heap.size) (p t:ByteArray) (ty:TypeId):OneB (W.alloc (.cells #[.string p,.string t] ty)) b W.heap.size p t:=⟨hb,by simp,by simp,by simp⟩
theorem OneB.alloc {W:World} {b G:Nat} {p t:ByteArray} (h:OneB W b G p t) (o:Obj):OneB (W.alloc o) b G p t:=by
 have hb:Below W.heap.size W (W.alloc o):=(Below.refl _ _).alloc (Nat.le_refl _) _
 exact ⟨h.1,Nat.lt_of_lt_of_le h.2.1 hb.size,by rw [hb.cell (p:=⟨G,0,none⟩) h.2.1]; exact h.2.2.1,by rw [hb.cell (p:=⟨G,1,none⟩) h.2.1]; exact h.2.2.2⟩
theorem OneB.grown {W W':World} {b G:Nat} {p t:ByteArray} {row:Option Nat} (h:OneB W b G p t) (hg:W.grownBy W' row) (hne:some G≠row):OneB W' b G p t:=by
 have hk:=hg.block G h.2.1 hne
 exact ⟨h.1,Nat.lt_of_lt_of_le h.2.1 hg.size,by rw [World.cell?_of_block (w:=W) hk (a:=⟨G,0,none⟩)]; exact h.2.2.1,by rw [World.cell?_of_block (w:=W) hk (a:=⟨G,1,none⟩)]; exact h.2.2.2⟩
theorem OneB.news {W:World} {b G:Nat} {p t:ByteArray} (h:OneB W b G p t):∀ j u,(encF ⟨p,t⟩)[j]?=some u→W.cell? ((⟨G,0,none⟩:Addr).add j)=some u:=by
 intro j u hj
 match j,hj with
 | 0,hj=>simp [encF] at hj; subst hj; simpa [Addr.add] using h.2.2.1
 | 1,hj=>simp [encF] at hj; subst hj; simpa [Addr.add] using h.2.2.2
theorem take_news {W:World} {g:Nat} {l:List Fl} (h:FBlk W g l) (k:Nat):∀ j u,((l.take k).flatMap encF)[j]?=some u→W.cell? ((⟨g,0,none⟩:Addr).add j)=some u:=by
 intro j u hj
 rw [flat_take,List.getElem?_take] at hj
 split at hj
 ·
  have hlt:j<(l.flatMap encF).length:=(List.getElem?_eq_some_iff.1 hj).1
  rw [flatG_len encF_len] at hlt
  have e:(⟨g,0,none⟩:Addr).add j=⟨g,j,none⟩:=by unfold Addr.add; split <;> simp_all
  rw [e,h.2 _ hlt,hj]
 ·
  cases hj
theorem l10_endS {w W:World} {l:List Fl} {n k j:Nat} {p t:ByteArray} {v:Value} (hn:l.length=n) (hT:TinyF l) (hp:p.size≤1000) (ht:t.size≤1000) (hj:j≤n) (hk:k≤n) (hkj:k≤j) (hb:Below w.heap.size w W)
  (ho:World.ownsRow W (w.heap.size+1) 28 2 v (0+k+1+(n-j)) ([]++(l.take k).flatMap encF++encF ⟨p,t⟩++(l.drop j).flatMap encF)) (hv:v ≠ .slice none 0 0) (hput:putF l ⟨p,t⟩=l.take k++⟨p,t⟩ :: l.drop j) :
  (∃ v' l',Ending.returned v = .returned v'∧l'.length≤n+1∧FOwn W w.heap.size v' l'∧v' ≠ .slice none 0 0∧TinyF l'∧l'=putF l ⟨p,t⟩)∧Below w.heap.size w W:=by
 have hlen:(l.take k++⟨p,t⟩ :: l.drop j).length=0+k+1+(n-j):=by simp; omega
 refine ⟨⟨v,l.take k++⟨p,t⟩ :: l.drop j,rfl,by rw [hlen]; omega,?_,hv,(hT.take k).app ?_,hput.symm⟩,hb⟩
 ·
  have h1:World.ownsRow W (w.heap.size+1) 28 2 v (l.take k++⟨p,t⟩ :: l.drop j).length ((l.take k++⟨p,t⟩ :: l.drop j).flatMap encF):=by
   rw [hlen]
   simpa using ho
  exact GOwn.mono h1 (Nat.le_succ _)
 ·
  intro e he
  rcases List.mem_cons.1 he with rfl | he
  ·
   exact ⟨hp,ht⟩
  ·
   exact hT.drop j e he
set_option maxHeartbeats 3200000 in
theorem l10PutS_any (g cap n:Nat) (l:List Fl) (p t:ByteArray) (w:World) (hn:l.length=n) (h:FBlk w g l) (hl:n≤20) (hcap:n≤cap) (hT:TinyF l) (hp:p.size≤1000) (ht:t.size≤1000) :
  Calls Tryz.prog 40 #[.slice (some ⟨g,0,none⟩) n cap,.agg #[.string p,.string t]] w fun e w'=>(∃ v l',e = .returned v∧l'.length≤n+1∧FOwn w' w.heap.size v l'∧v ≠ .slice none 0 0∧TinyF l'∧l'=putF l ⟨p,t⟩)∧Below w.heap.size w w':=by
 have hmix:Tryz.prog.follows .mixedOrders=true:=by kernel_rfl
 obtain ⟨i0,hi,hz0,hz1,hz2⟩:=info_parts Tryz.infoFile
 have hnI:(n:Int)≤20:=by omega
 have hcI:(n:Int)≤(cap:Int):=by omega
 have HN:=hide (And.intro hn (And.intro hl (And.intro hT (And.intro hp ht))))
 have HF:=hide h
 have HI:Hid (PSt w p t (w.alloc (.cells #[.string p,.string t] 28))):=⟨(Below.refl _ _).alloc (Nat.le_refl _) _,by simp,by simp,by simp⟩
 clear hn h hl hT hp ht
 go_enter Tryz.func40,Tryz.ntmps40
 go_wp2_with fail
 go_loopw [5] (fun i wr=>∃ k:Nat,k≤n∧i = .int .i64 k∧PSt w p t wr∧∀ j,j<k→ltP (l.getD j default).p p=true) (fun i _=>n-(intOf i).toNat)
 case atStart=>exact ⟨0,Nat.zero_le _,rfl,unhide HI,fun j hj=>absurd hj (by omega)⟩
 case round=>
  obtain ⟨k,hk,rfl,hst,hlo⟩:=hrel
  have HLo:=hide hlo
  clear hlo
  clear HI
  have HP:=hide hst
  obtain ⟨_,hsz,c0,c1⟩:=hst
  have Hk:=hide hk
  have k4:IntKind.i64.wrap ((k:Int)+1)=(k:Int)+1:=by simp only [IntKind.wrap,IntKind.bits,IntKind.signed]; simp; omega
  have kI:(k:Int)≤(n:Int):=by omega
  by_cases hlt:k<n
  ·
   have hltI:(k:Int)<(n:Int):=by omega
   have hF2:=(unhide HF).later (unhide HP).below
   have ck:=hF2.at k (by rw [(unhide HN).1]; exact hlt)
   obtain ⟨q,hq⟩:∃ q,(l.getD k default).p=q:=⟨_,rfl⟩
   rw [hq] at ck
   have HQ:=hide hq
   clear hq
   have hgl:g<wr.heap.size:=hF2.1
   clear hF2
   cases hB:Op.bytesLess q.toList p.toList
   ·
    go_wp2_with fail
    go_quiet (fail)
    have HPq:=hide ((unhide HP).drewN nq)
    have ckq:(wr.drewN nq).cell? ⟨g,k*2,none⟩=some (.string q):=ck
    obtain ⟨_,hszq,c0q,c1q⟩:=(unhide HP).drewN nq
    generalize wr.drewN nq=wq at *
    go_wp2_with fail
    cases hE:(q.toList == p.toList)
    ·
     have HPut:Hid (putF l ⟨p,t⟩=l.take k++⟨p,t⟩ :: l.drop k):=by
      have hpos:posP l p=k:=posP_eq (by rw [(unhide HN).1]; exact Nat.le_of_lt hlt) (unhide HLo) (fun _=>by rw [unhide HQ]; exact hB)
      have:=putF_new (l:=l) (f:=⟨p,t⟩) (by rw [hpos]; intro _ e; rw [unhide HQ] at e; rw [e] at hE; simp at hE)
      rw [hpos] at this; exact this
     go_quiet (fail)
     go_wp2_with fail
     have HP0:=hide ((unhide HPq).drewN nq)
     generalize wq.drewN nq=W0 at *
     have hj:k≤n:=by have:=unhide Hk; omega
     obtain ⟨AD,hAD⟩:∃ AD,(if cap=k then some (⟨g,0,none⟩:Addr) else some ⟨g,(k)*2,none⟩)=some AD:=by split <;> exact ⟨_,rfl⟩
     have HAD:=hide hAD
     clear hAD
     have hkl:k≤l.length:=by rw [(unhide HN).1]; have:=unhide Hk; omega
     have HBd:Hid (∀ x,x≤40→x≤maxLen∧x*32≤140737488355328):=fun x hx=>by unfold maxLen; omega
     have HL1:Hid (((l.take k).flatMap encF).length=k*2):=by show _=_; rw [flatG_len encF_len,List.length_take]; omega
     have HL2:Hid (((l.drop (k)).flatMap encF).length=(n-(k))*2):=by show _=_; rw [flatG_len encF_len,List.length_drop,(unhide HN).1]
     have HTl:Hid (∀ W,PSt w p t W→∀ i u,((l.drop (k)).flatMap encF)[i]?=some u→W.cell? (AD.add i)=some u):=fun W hW i u hu=>by
      have hF:=(unhide HF).later hW.below
      have hlt:i<((l.drop (k)).flatMap encF).length:=(List.getElem?_eq_some_iff.1 hu).1
      rw [unhide HL2] at hlt
      have e:AD=⟨g,(k)*2,none⟩:=by
       have:=unhide HAD
       rw [if_neg (by omega)] at this
       exact (Option.some.inj this).symm
      rw [e]
      exact row_news hF.2 (k) i u hu
     have HTk:Hid (∀ W,PSt w p t W→∀ i u,((l.take k).flatMap encF)[i]?=some u→W.cell? ((⟨g,0,none⟩:Addr).add i)=some u):=fun W hW=>take_news ((unhide HF).later hW.below) k
     refine wp_region_held_drew (S:=fun W=>W.cell? ⟨w.heap.size,0,none⟩=some (.string p)∧W.cell? ⟨w.heap.size,1,none⟩=some (.string t)) hmix ⟨(unhide HP0).3,(unhide HP0).4⟩ (fun hS=>?_)
     refine wpAnyH_take (i:=1) (v:=.slice (some ⟨g,0,none⟩) n cap) rfl (by kernel_rfl) (by kernel_rfl) (by kernel_rfl) (fun _ _ _ h=>h) (Or.inl ⟨by rfl,fun W hSw=>by obtain ⟨hs0,hs1⟩:=hSw; go_simp⟩) hS ?_
     refine wpAnyH_take (i:=2) (v:=.int .i64 (k:Nat)) rfl (by kernel_rfl) (by kernel_rfl) (by kernel_rfl) (fun _ _ _ h=>h) (Or.inl ⟨by rfl,fun W hSw=>by obtain ⟨hs0,hs1⟩:=hSw; go_simp⟩) hS ?_
     refine wpAnyH_take (i:=3) (v:=.slice (some ⟨g,0,none⟩) k cap) rfl (by kernel_rfl) (by kernel_rfl) (by kernel_rfl) (fun _ _ _ h=>h) (Or.inl ⟨by rfl,fun W hSw=>by obtain ⟨hs0,hs1⟩:=hSw; go_simp <;> (intro h; omega)⟩) hS ?_
     refine wpAnyH_take (i:=5) (v:=.agg #[.string p,.string t]) rfl (by kernel_rfl) (by kernel_rfl) (by kernel_rfl) (fun _ _ _ h=>h) (Or.inl ⟨by rfl,fun W hSw=>by obtain ⟨hs0,hs1⟩:=hSw; go_simp⟩) hS ?_
     refine wpAnyH_take (i:=8) (v:=.slice (some ⟨g,0,none⟩) n cap) rfl (by kernel_rfl) (by kernel_rfl) (by kernel_rfl) (fun _ _ _ h=>h) (Or.inl ⟨by rfl,fun W hSw=>by obtain ⟨hs0,hs1⟩:=hSw; go_simp⟩) hS ?_
     refine wpAnyH_take (i:=9) (v:=.int .i64 (k:Nat)) rfl (by kernel_rfl) (by kernel_rfl) (by kernel_rfl) (fun _ _ _ h=>h) (Or.inl ⟨by rfl,fun W hSw=>by obtain ⟨hs0,hs1⟩:=hSw; go_simp⟩) hS ?_
     refine wpAnyH_take (i:=10) (v:=.slice (some AD) (n-(k)) (cap-(k))) rfl (by kernel_rfl) (by kernel_rfl) (by kernel_rfl) (fun _ _ _ h=>h) (Or.inl ⟨by rfl,fun W hSw=>by obtain ⟨hs0,hs1⟩:=hSw; go_simp; first | (rw [if_pos (by omega),unhide HAD]) | (rw [unhide HAD]) | skip⟩) hS ?_
     clear hS
     have HP1:Hid (PSt w p t W0.drew):=(unhide HP0).drew
     generalize W0.drew=W1 at *
     refine wpAnyH_ready (rs:=[0,6]) (by kernel_rfl) (by simp) ?_
     refine AllReadyH.cons rfl (fun K hK=>?_) (AllReadyH.cons rfl (fun K hK=>?_) (AllReadyH.nil))
     ·
      go_simp
      have HP2:Hid (PSt w p t (W1.alloc (.cells #[] 28))):=(unhide HP1).alloc _
      have HO2:Hid (World.ownsRow (W1.alloc (.cells #[] 28)) (w.heap.size+1) 28 2 (.slice (some ⟨W1.heap.size,0,none⟩) 0 0) 0 []):=World.ownsRow_lit W1 #[] 0 (unhide HP1).2 (by unfold maxLen; omega) rfl
      refine Shut.out hK _ _ ⟨(unhide HP2).3,(unhide HP2).4⟩ (fun _=>?_)
      clear hK K
      obtain ⟨G0,hG0⟩:∃ x,W1.heap.size=x:=⟨_,rfl⟩
      obtain ⟨W2,hW2⟩:∃ x,W1.alloc (.cells #[] 28)=x:=⟨_,rfl⟩
      rw [hG0,hW2] at HO2
      rw [hW2] at HP2
      rw [hG0,hW2]
      refine wpAnyH_ready (rs:=[4,6]) (by kernel_rfl) (by simp) ?_
      refine AllReadyH.cons rfl (fun K hK=>?_) (AllReadyH.cons rfl (fun K hK=>?_) (AllReadyH.nil))
      ·
       refine step_append_own rfl (.tmp 49) (.tmp 52) 23 rfl (w.heap.size+1) 28 i0 (.agg #[.string ⟨#[]⟩,.string ⟨#[]⟩]) 2 32 Tryz.underlying23 hi hz0 hz1 hz2 rfl (by decide) (Value.slice (some ⟨G0,0,none⟩) 0 0) (0) ([]) rfl (unhide HO2) ⟨g,0,none⟩ (k) (cap) ((l.take k).flatMap encF) rfl (unhide HL1) (unhide HTk _ (unhide HP2)) (encs_one _) (unhide HBd _ (by have:=unhide HN; omega)).1 (unhide HBd _ (by have:=unhide HN; omega)).2 (unhide HP2).2 ?_
       intro v3 W3 hown hgrow hnil
       have HP3:Hid (PSt w p t W3):=(unhide HP2).grown (unhide HO2) hgrow
       have HO3:=hide hown
       have hn3:v3 ≠ .slice none 0 0:=fun e=>by have:=(hnil.1 e).1; cases this
       clear hown hgrow hnil
       refine Shut.out hK _ _ ⟨(unhide HP3).3,(unhide HP3).4⟩ (fun _=>?_)
       clear hK K
       refine wpAnyH_ready (rs:=[6]) (by kernel_rfl) (by simp) ?_
       refine AllReadyH.cons rfl (fun K hK=>?_) (AllReadyH.nil)
       go_simp
       have HP4:Hid (PSt w p t (W3.alloc (.cells #[.string p,.string t] 28))):=(unhide HP3).alloc _
       have HX4:Hid (OneB (W3.alloc (.cells #[.string p,.string t] 28)) (w.heap.size+1) W3.heap.size p t):=OneB.new _ _ (unhide HP3).2 _ _ _
       have HO4:=hide (World.ownsRow.alloc (unhide HO3) (.cells #[.string p,.string t] 28))
       have hown6:∀ jj,v3.ownBlock=some jj→jj<W3.heap.size:=fun jj hjj=>(World.ownsRow.lt (unhide HO3) jj hjj).2
       refine Shut.out hK _ _ ⟨(unhide HP4).3,(unhide HP4).4⟩ (fun _=>?_)
       clear hK K
       obtain ⟨G6,hG6⟩:∃ x,W3.heap.size=x:=⟨_,rfl⟩
       obtain ⟨W4,hW4⟩:∃ x,W3.alloc (.cells #[.string p,.string t] 28)=x:=⟨_,rfl⟩
       rw [hG6,hW4] at HX4
       rw [hW4] at HP4
       rw [hW4] at HO4
       rw [hG6] at hown6
       rw [hG6,hW4]
       refine wpAnyH_ready (rs:=[7]) (by kernel_rfl) (by simp) ?_
       refine AllReadyH.cons rfl (fun K hK=>?_) (AllReadyH.nil)
       refine step_append_own rfl (.tmp 53) (.tmp 55) 23 rfl (w.heap.size+1) 28 i0 (.agg #[.string ⟨#[]⟩,.string ⟨#[]⟩]) 2 32 Tryz.underlying23 hi hz0 hz1 hz2 rfl (by decide) v3 (0+k) ([]++(l.take k).flatMap encF) rfl (unhide HO4) ⟨G6,0,none⟩ (1) (1) (encF ⟨p,t⟩) rfl rfl (unhide HX4).news (encF_one _) (unhide HBd _ (by have:=unhide HN; omega)).1 (unhide HBd _ (by have:=unhide HN; omega)).2 (unhide HP4).2 ?_
       intro v8 W8 hown hgrow hnil
       have HP8:Hid (PSt w p t W8):=(unhide HP4).grown (unhide HO4) hgrow
       have HO8:=hide hown
       have hn8:v8 ≠ .slice none 0 0:=fun e=>hn3 (hnil.1 e).1
       clear hown hgrow hnil
       refine Shut.out hK _ _ ⟨(unhide HP8).3,(unhide HP8).4⟩ (fun _=>?_)
       clear hK K
       refine wpAnyH_ready (rs:=[11]) (by kernel_rfl) (by simp) ?_
       refine AllReadyH.cons rfl (fun K hK=>?_) (AllReadyH.nil)
       refine step_append_own rfl (.tmp 56) (.tmp 59) 23 rfl (w.heap.size+1) 28 i0 (.agg #[.string ⟨#[]⟩,.string ⟨#[]⟩]) 2 32 Tryz.underlying23 hi hz0 hz1 hz2 rfl (by decide) v8 (0+k+1) ([]++(l.take k).flatMap encF++encF ⟨p,t⟩) rfl (unhide HO8) AD (n-(k)) (cap-(k)) ((l.drop (k)).flatMap encF) rfl (unhide HL2) (unhide HTl _ (unhide HP8)) (encs_one _) (unhide HBd _ (by have:=unhide HN; omega)).1 (unhide HBd _ (by have:=unhide HN; omega)).2 (unhide HP8).2 ?_
       intro v9 W9 hown hgrow hnil
       have HP9:Hid (PSt w p t W9):=(unhide HP8).grown (unhide HO8) hgrow
       have HO9:=hide hown
       have hn9:v9 ≠ .slice none 0 0:=fun e=>hn8 (hnil.1 e).1
       clear hown hgrow hnil
       refine Shut.out hK _ _ ⟨(unhide HP9).3,(unhide HP9).4⟩ (fun _=>?_)
       clear hK K
       refine wpAnyH_ready (rs:=[12]) (by kernel_rfl) (by simp) ?_
       refine AllReadyH.cons rfl (fun K hK=>?_) (AllReadyH.nil)
       go_simp
       refine Shut.out hK _ _ ⟨(unhide HP9).3,(unhide HP9).4⟩ (fun _=>?_)
       clear hK K
       refine wpAnyH_done (by kernel_rfl) ?_ _
       go_wp2
       go_ret
       exact l10_endS (unhide HN).1 (unhide HN).2.2.1 (unhide HN).2.2.2.1 (unhide HN).2.2.2.2 hj (by have:=unhide Hk; omega) (by omega) (unhide HP9).below (unhide HO9) hn9 (unhide HPut)
      ·
       go_simp
       have HP3:Hid (PSt w p t (W2.alloc (.cells #[.string p,.string t] 28))):=(unhide HP2).alloc _
       have HX3:Hid (OneB (W2.alloc (.cells #[.string p,.string t] 28)) (w.heap.size+1) W2.heap.size p t):=OneB.new _ _ (unhide HP2).2 _ _ _
       have HO3:=hide (World.ownsRow.alloc (unhide HO2) (.cells #[.string p,.string t] 28))
       have hown6:∀ jj,(Value.slice (some ⟨G0,0,none⟩) 0 0).ownBlock=some jj→jj<W2.heap.size:=fun jj hjj=>(World.ownsRow.lt (unhide HO2) jj hjj).2
       refine Shut.out hK _ _ ⟨(unhide HP3).3,(unhide HP3).4⟩ (fun _=>?_)
       clear hK K
       obtain ⟨G6,hG6⟩:∃ x,W2.heap.size=x:=⟨_,rfl⟩
       obtain ⟨W3,hW3⟩:∃ x,W2.alloc (.cells #[.string p,.string t] 28)=x:=⟨_,rfl⟩
       rw [hG6,hW3] at HX3
       rw [hW3] at HP3
       rw [hW3] at HO3
       rw [hG6] at hown6
       rw [hG6,hW3]
       refine wpAnyH_ready (rs:=[4]) (by kernel_rfl) (by simp) ?_
       refine AllReadyH.cons rfl (fun K hK=>?_) (AllReadyH.nil)
       have hlt0:G0<G6:=hown6 G0 rfl
       refine step_append_own rfl (.tmp 49) (.tmp 52) 23 rfl (w.heap.size+1) 28 i0 (.agg #[.string ⟨#[]⟩,.string ⟨#[]⟩]) 2 32 Tryz.underlying23 hi hz0 hz1 hz2 rfl (by decide) (Value.slice (some ⟨G0,0,none⟩) 0 0) (0) ([]) rfl (unhide HO3) ⟨g,0,none⟩ (k) (cap) ((l.take k).flatMap encF) rfl (unhide HL1) (unhide HTk _ (unhide HP3)) (encs_one _) (unhide HBd _ (by have:=unhide HN; omega)).1 (unhide HBd _ (by have:=unhide HN; omega)).2 (unhide HP3).2 ?_
       intro v4 W4 hown hgrow hnil
       have HP4:Hid (PSt w p t W4):=(unhide HP3).grown (unhide HO3) hgrow
       have HO4:=hide hown
       have HX4:Hid (OneB W4 (w.heap.size+1) G6 p t):=(unhide HX3).grown hgrow (fun e=>by have h6:G6=G0:=Option.some.inj e; omega)
       have hn4:v4 ≠ .slice none 0 0:=fun e=>by have:=(hnil.1 e).1; cases this
       clear hown hgrow hnil
       refine Shut.out hK _ _ ⟨(unhide HP4).3,(unhide HP4).4⟩ (fun _=>?_)
       clear hK K
       refine wpAnyH_ready (rs:=[7]) (by kernel_rfl) (by simp) ?_
       refine AllReadyH.cons rfl (fun K hK=>?_) (AllReadyH.nil)
       refine step_append_own rfl (.tmp 53) (.tmp 55) 23 rfl (w.heap.size+1) 28 i0 (.agg #[.string ⟨#[]⟩,.string ⟨#[]⟩]) 2 32 Tryz.underlying23 hi hz0 hz1 hz2 rfl (by decide) v4 (0+k) ([]++(l.take k).flatMap encF) rfl (unhide HO4) ⟨G6,0,none⟩ (1) (1) (encF ⟨p,t⟩) rfl rfl (unhide HX4).news (encF_one _) (unhide HBd _ (by have:=unhide HN; omega)).1 (unhide HBd _ (by have:=unhide HN; omega)).2 (unhide HP4).2 ?_
       intro v8 W8 hown hgrow hnil
       have HP8:Hid (PSt w p t W8):=(unhide HP4).grown (unhide HO4) hgrow
       have HO8:=hide hown
       have hn8:v8 ≠ .slice none 0 0:=fun e=>hn4 (hnil.1 e).1
       clear hown hgrow hnil
       refine Shut.out hK _ _ ⟨(unhide HP8).3,(unhide HP8).4⟩ (fun _=>?_)
       clear hK K
       refine wpAnyH_ready (rs:=[11]) (by kernel_rfl) (by simp) ?_
       refine AllReadyH.cons rfl (fun K hK=>?_) (AllReadyH.nil)
       refine step_append_own rfl (.tmp 56) (.tmp 59) 23 rfl (w.heap.size+1) 28 i0 (.agg #[.string ⟨#[]⟩,.string ⟨#[]⟩]) 2 32 Tryz.underlying23 hi hz0 hz1 hz2 rfl (by decide) v8 (0+k+1) ([]++(l.take k).flatMap encF++encF ⟨p,t⟩) rfl (unhide HO8) AD (n-(k)) (cap-(k)) ((l.drop (k)).flatMap encF) rfl (unhide HL2) (unhide HTl _ (unhide HP8)) (encs_one _) (unhide HBd _ (by have:=unhide HN; omega)).1 (unhide HBd _ (by have:=unhide HN; omega)).2 (unhide HP8).2 ?_
       intro v9 W9 hown hgrow hnil
       have HP9:Hid (PSt w p t W9):=(unhide HP8).grown (unhide HO8) hgrow
       have HO9:=hide hown
       have hn9:v9 ≠ .slice none 0 0:=fun e=>hn8 (hnil.1 e).1
       clear hown hgrow hnil
       refine Shut.out hK _ _ ⟨(unhide HP9).3,(unhide HP9).4⟩ (fun _=>?_)
       clear hK K
       refine wpAnyH_ready (rs:=[12]) (by kernel_rfl) (by simp) ?_
       refine AllReadyH.cons rfl (fun K hK=>?_) (AllReadyH.nil)
       go_simp
       refine Shut.out hK _ _ ⟨(unhide HP9).3,(unhide HP9).4⟩ (fun _=>?_)
       clear hK K
       refine wpAnyH_done (by kernel_rfl) ?_ _
       go_wp2
       go_ret
       exact l10_endS (unhide HN).1 (unhide HN).2.2.1 (unhide HN).2.2.2.1 (unhide HN).2.2.2.2 hj (by have:=unhide Hk; omega) (by omega) (unhide HP9).below (unhide HO9) hn9 (unhide HPut)
     ·
      go_simp
      have HP2:Hid (PSt w p t (W1.alloc (.cells #[.string p,.string t] 28))):=(unhide HP1).alloc _
      have HX2:Hid (OneB (W1.alloc (.cells #[.string p,.string t] 28)) (w.heap.size+1) W1.heap.size p t):=OneB.new _ _ (unhide HP1).2 _ _ _
      refine Shut.out hK _ _ ⟨(unhide HP2).3,(unhide HP2).4⟩ (fun _=>?_)
      clear hK K
      obtain ⟨G6,hG6⟩:∃ x,W1.heap.size=x:=⟨_,rfl⟩
      obtain ⟨W2,hW2⟩:∃ x,W1.alloc (.cells #[.string p,.string t] 28)=x:=⟨_,rfl⟩
      rw [hG6,hW2] at HX2
      rw [hW2] at HP2
      rw [hG6,hW2]
      refine wpAnyH_ready (rs:=[0]) (by kernel_rfl) (by simp) ?_
      refine AllReadyH.cons rfl (fun K hK=>?_) (AllReadyH.nil)
      go_simp
      have HP3:Hid (PSt w p t (W2.alloc (.cells #[] 28))):=(unhide HP2).alloc _
      have HO3:Hid (World.ownsRow (W2.alloc (.cells #[] 28)) (w.heap.size+1) 28 2 (.slice (some ⟨W2.heap.size,0,none⟩) 0 0) 0 []):=World.ownsRow_lit W2 #[] 0 (unhide HP2).2 (by unfold maxLen; omega) rfl
      have HX3:Hid (OneB (W2.alloc (.cells #[] 28)) (w.heap.size+1) G6 p t):=(unhide HX2).alloc _
      have hlt6:G6<W2.heap.size:=(unhide HX2).2.1
      refine Shut.out hK _ _ ⟨(unhide HP3).3,(unhide HP3).4⟩ (fun _=>?_)
      clear hK K
      obtain ⟨G0,hG0⟩:∃ x,W2.heap.size=x:=⟨_,rfl⟩
      obtain ⟨W3,hW3⟩:∃ x,W2.alloc (.cells #[] 28)=x:=⟨_,rfl⟩
      rw [hG0,hW3] at HO3
      rw [hW3] at HP3
      rw [hW3] at HX3
      rw [hG0,hW3]
      refine wpAnyH_ready (rs:=[4]) (by kernel_rfl) (by simp) ?_
      refine AllReadyH.cons rfl (fun K hK=>?_) (AllReadyH.nil)
      have hlt0:G6<G0:=by omega
      refine step_append_own rfl (.tmp 49) (.tmp 52) 23 rfl (w.heap.size+1) 28 i0 (.agg #[.string ⟨#[]⟩,.string ⟨#[]⟩]) 2 32 Tryz.underlying23 hi hz0 hz1 hz2 rfl (by decide) (Value.slice (some ⟨G0,0,none⟩) 0 0) (0) ([]) rfl (unhide HO3) ⟨g,0,none⟩ (k) (cap) ((l.take k).flatMap encF) rfl (unhide HL1) (unhide HTk _ (unhide HP3)) (encs_one _) (unhide HBd _ (by have:=unhide HN; omega)).1 (unhide HBd _ (by have:=unhide HN; omega)).2 (unhide HP3).2 ?_
      intro v4 W4 hown hgrow hnil
      have HP4:Hid (PSt w p t W4):=(unhide HP3).grown (unhide HO3) hgrow
      have HO4:=hide hown
      have HX4:Hid (OneB W4 (w.heap.size+1) G6 p t):=(unhide HX3).grown hgrow (fun e=>by have h6:G6=G0:=Option.some.inj e; omega)
      have hn4:v4 ≠ .slice none 0 0:=fun e=>by have:=(hnil.1 e).1; cases this
      clear hown hgrow hnil
      refine Shut.out hK _ _ ⟨(unhide HP4).3,(unhide HP4).4⟩ (fun _=>?_)
      clear hK K
      refine wpAnyH_ready (rs:=[7]) (by kernel_rfl) (by simp) ?_
      refine AllReadyH.cons rfl (fun K hK=>?_) (AllReadyH.nil)
      refine step_append_own rfl (.tmp 53) (.tmp 55) 23 rfl (w.heap.size+1) 28 i0 (.agg #[.string ⟨#[]⟩,.string ⟨#[]⟩]) 2 32 Tryz.underlying23 hi hz0 hz1 hz2 rfl (by decide) v4 (0+k) ([]++(l.take k).flatMap encF) rfl (unhide HO4) ⟨G6,0,none⟩ (1) (1) (encF ⟨p,t⟩) rfl rfl (unhide HX4).news (encF_one _) (unhide HBd _ (by have:=unhide HN; omega)).1 (unhide HBd _ (by have:=unhide HN; omega)).2 (unhide HP4).2 ?_
      intro v8 W8 hown hgrow hnil
      have HP8:Hid (PSt w p t W8):=(unhide HP4).grown (unhide HO4) hgrow
      have HO8:=hide hown
      have hn8:v8 ≠ .slice none 0 0:=fun e=>hn4 (hnil.1 e).1
      clear hown hgrow hnil
      refine Shut.out hK _ _ ⟨(unhide HP8).3,(unhide HP8).4⟩ (fun _=>?_)
      clear hK K
      refine wpAnyH_ready (rs:=[11]) (by kernel_rfl) (by simp) ?_
      refine AllReadyH.cons rfl (fun K hK=>?_) (AllReadyH.nil)
      refine step_append_own rfl (.tmp 56) (.tmp 59) 23 rfl (w.heap.size+1) 28 i0 (.agg #[.string ⟨#[]⟩,.string ⟨#[]⟩]) 2 32 Tryz.underlying23 hi hz0 hz1 hz2 rfl (by decide) v8 (0+k+1) ([]++(l.take k).flatMap encF++encF ⟨p,t⟩) rfl (unhide HO8) AD (n-(k)) (cap-(k)) ((l.drop (k)).flatMap encF) rfl (unhide HL2) (unhide HTl _ (unhide HP8)) (encs_one _) (unhide HBd _ (by have:=unhide HN; omega)).1 (unhide HBd _ (by have:=unhide HN; omega)).2 (unhide HP8).2 ?_
      intro v9 W9 hown hgrow hnil
      have HP9:Hid (PSt w p t W9):=(unhide HP8).grown (unhide HO8) hgrow
      have HO9:=hide hown
      have hn9:v9 ≠ .slice none 0 0:=fun e=>hn8 (hnil.1 e).1
      clear hown hgrow hnil
      refine Shut.out hK _ _ ⟨(unhide HP9).3,(unhide HP9).4⟩ (fun _=>?_)
      clear hK K
      refine wpAnyH_ready (rs:=[12]) (by kernel_rfl) (by simp) ?_
      refine AllReadyH.cons rfl (fun K hK=>?_) (AllReadyH.nil)
      go_simp
      refine Shut.out hK _ _ ⟨(unhide HP9).3,(unhide HP9).4⟩ (fun _=>?_)
      clear hK K
      refine wpAnyH_done (by kernel_rfl) ?_ _
      go_wp2
      go_ret
      exact l10_endS (unhide HN).1 (unhide HN).2.2.1 (unhide HN).2.2.2.1 (unhide HN).2.2.2.2 hj (by have:=unhide Hk; omega) (by omega) (unhide HP9).below (unhide HO9) hn9 (unhide HPut)
    ·
     have HPut:Hid (putF l ⟨p,t⟩=l.take k++⟨p,t⟩ :: l.drop (k+1)):=by
      have hpos:posP l p=k:=posP_eq (by rw [(unhide HN).1]; exact Nat.le_of_lt hlt) (unhide HLo) (fun _=>by rw [unhide HQ]; exact hB)
      have hqp:q=p:=ByteArray.ext (Array.toList_inj.1 (by have:=hE; simp only [beq_iff_eq] at this; rw [Lib.toList_data,Lib.toList_data] at this; exact this))
      have:=putF_here (l:=l) (f:=⟨p,t⟩) (by rw [hpos,(unhide HN).1]; exact hlt) (by rw [hpos,unhide HQ]; exact hqp)
      rw [hpos] at this; exact this
     go_quiet (fail)
     go_wp2_with fail
     have HP0:=hide ((unhide HPq).drewN nq)
     generalize wq.drewN nq=W0 at *
     have hj:k+1≤n:=by have:=unhide Hk; omega
     obtain ⟨AD,hAD⟩:∃ AD,(if cap=k+1 then some (⟨g,0,none⟩:Addr) else some ⟨g,(k+1)*2,none⟩)=some AD:=by split <;> exact ⟨_,rfl⟩
     have HAD:=hide hAD
     clear hAD
     have hkl:k≤l.length:=by rw [(unhide HN).1]; have:=unhide Hk; omega
     have HBd:Hid (∀ x,x≤40→x≤maxLen∧x*32≤140737488355328):=fun x hx=>by unfold maxLen; omega
     have HL1:Hid (((l.take k).flatMap encF).length=k*2):=by show _=_; rw [flatG_len encF_len,List.length_take]; omega
     have HL2:Hid (((l.drop (k+1)).flatMap encF).length=(n-(k+1))*2):=by show _=_; rw [flatG_len encF_len,List.length_drop,(unhide HN).1]
     have HTl:Hid (∀ W,PSt w p t W→∀ i u,((l.drop (k+1)).flatMap encF)[i]?=some u→W.cell? (AD.add i)=some u):=fun W hW i u hu=>by
      have hF:=(unhide HF).later hW.below
      have hlt:i<((l.drop (k+1)).flatMap encF).length:=(List.getElem?_eq_some_iff.1 hu).1
      rw [unhide HL2] at hlt
      have e:AD=⟨g,(k+1)*2,none⟩:=by
       have:=unhide HAD
       rw [if_neg (by omega)] at this
       exact (Option.some.inj this).symm
      rw [e]
      exact row_news hF.2 (k+1) i u hu
     have HTk:Hid (∀ W,PSt w p t W→∀ i u,((l.take k).flatMap encF)[i]?=some u→W.cell? ((⟨g,0,none⟩:Addr).add i)=some u):=fun W hW=>take_news ((unhide HF).later hW.below) k
     refine wp_region_held_drew (S:=fun W=>W.cell? ⟨w.heap.size,0,none⟩=some (.string p)∧W.cell? ⟨w.heap.size,1,none⟩=some (.string t)) hmix ⟨(unhide HP0).3,(unhide HP0).4⟩ (fun hS=>?_)
     refine wpAnyH_take (i:=1) (v:=.slice (some ⟨g,0,none⟩) n cap) rfl (by kernel_rfl) (by kernel_rfl) (by kernel_rfl) (fun _ _ _ h=>h) (Or.inl ⟨by rfl,fun W hSw=>by obtain ⟨hs0,hs1⟩:=hSw; go_simp⟩) hS ?_
     refine wpAnyH_take (i:=2) (v:=.int .i64 (k:Nat)) rfl (by kernel_rfl) (by kernel_rfl) (by kernel_rfl) (fun _ _ _ h=>h) (Or.inl ⟨by rfl,fun W hSw=>by obtain ⟨hs0,hs1⟩:=hSw; go_simp⟩) hS ?_
     refine wpAnyH_take (i:=3) (v:=.slice (some ⟨g,0,none⟩) k cap) rfl (by kernel_rfl) (by kernel_rfl) (by kernel_rfl) (fun _ _ _ h=>h) (Or.inl ⟨by rfl,fun W hSw=>by obtain ⟨hs0,hs1⟩:=hSw; go_simp <;> (intro h; omega)⟩) hS ?_
     refine wpAnyH_take (i:=5) (v:=.agg #[.string p,.string t]) rfl (by kernel_rfl) (by kernel_rfl) (by kernel_rfl) (fun _ _ _ h=>h) (Or.inl ⟨by rfl,fun W hSw=>by obtain ⟨hs0,hs1⟩:=hSw; go_simp⟩) hS ?_
     refine wpAnyH_take (i:=8) (v:=.slice (some ⟨g,0,none⟩) n cap) rfl (by kernel_rfl) (by kernel_rfl) (by kernel_rfl) (fun _ _ _ h=>h) (Or.inl ⟨by rfl,fun W hSw=>by obtain ⟨hs0,hs1⟩:=hSw; go_simp⟩) hS ?_
     refine wpAnyH_take (i:=9) (v:=.int .i64 (k:Nat)) rfl (by kernel_rfl) (by kernel_rfl) (by kernel_rfl) (fun _ _ _ h=>h) (Or.inl ⟨by rfl,fun W hSw=>by obtain ⟨hs0,hs1⟩:=hSw; go_simp⟩) hS ?_
     refine wpAnyH_take (i:=10) (v:=.int .i64 ((k:Int)+1)) rfl (by kernel_rfl) (by kernel_rfl) (by kernel_rfl) (fun _ _ _ h=>h) (Or.inl ⟨by rfl,fun W hSw=>by obtain ⟨hs0,hs1⟩:=hSw; go_simp⟩) hS ?_
     refine wpAnyH_take (i:=11) (v:=.slice (some AD) (n-(k+1)) (cap-(k+1))) rfl (by kernel_rfl) (by kernel_rfl) (by kernel_rfl) (fun _ _ _ h=>h) (Or.inl ⟨by rfl,fun W hSw=>by obtain ⟨hs0,hs1⟩:=hSw; go_simp; first | (rw [if_pos (by omega),unhide HAD]) | (rw [unhide HAD]) | skip⟩) hS ?_
     clear hS
     have HP1:Hid (PSt w p t W0.drew):=(unhide HP0).drew
     generalize W0.drew=W1 at *
     refine wpAnyH_ready (rs:=[0,6]) (by kernel_rfl) (by simp) ?_
     refine AllReadyH.cons rfl (fun K hK=>?_) (AllReadyH.cons rfl (fun K hK=>?_) (AllReadyH.nil))
     ·
      go_simp
      have HP2:Hid (PSt w p t (W1.alloc (.cells #[] 28))):=(unhide HP1).alloc _
      have HO2:Hid (World.ownsRow (W1.alloc (.cells #[] 28)) (w.heap.size+1) 28 2 (.slice (some ⟨W1.heap.size,0,none⟩) 0 0) 0 []):=World.ownsRow_lit W1 #[] 0 (unhide HP1).2 (by unfold maxLen; omega) rfl
      refine Shut.out hK _ _ ⟨(unhide HP2).3,(unhide HP2).4⟩ (fun _=>?_)
      clear hK K
      obtain ⟨G0,hG0⟩:∃ x,W1.heap.size=x:=⟨_,rfl⟩
      obtain ⟨W2,hW2⟩:∃ x,W1.alloc (.cells #[] 28)=x:=⟨_,rfl⟩
      rw [hG0,hW2] at HO2
      rw [hW2] at HP2
      rw [hG0,hW2]
      refine wpAnyH_ready (rs:=[4,6]) (by kernel_rfl) (by simp) ?_
      refine AllReadyH.cons rfl (fun K hK=>?_) (AllReadyH.cons rfl (fun K hK=>?_) (AllReadyH.nil))
      ·
       refine step_append_own rfl (.tmp 36) (.tmp 39) 23 rfl (w.heap.size+1) 28 i0 (.agg #[.string ⟨#[]⟩,.string ⟨#[]⟩]) 2 32 Tryz.underlying23 hi hz0 hz1 hz2 rfl (by decide) (Value.slice (some ⟨G0,0,none⟩) 0 0) (0) ([]) rfl (unhide HO2) ⟨g,0,none⟩ (k) (cap) ((l.take k).flatMap encF) rfl (unhide HL1) (unhide HTk _ (unhide HP2)) (encs_one _) (unhide HBd _ (by have:=unhide HN; omega)).1 (unhide HBd _ (by have:=unhide HN; omega)).2 (unhide HP2).2 ?_
       intro v3 W3 hown hgrow hnil
       have HP3:Hid (PSt w p t W3):=(unhide HP2).grown (unhide HO2) hgrow
       have HO3:=hide hown
       have hn3:v3 ≠ .slice none 0 0:=fun e=>by have:=(hnil.1 e).1; cases this
       clear hown hgrow hnil
       refine Shut.out hK _ _ ⟨(unhide HP3).3,(unhide HP3).4⟩ (fun _=>?_)
       clear hK K
       refine wpAnyH_ready (rs:=[6]) (by kernel_rfl) (by simp) ?_
       refine AllReadyH.cons rfl (fun K hK=>?_) (AllReadyH.nil)
       go_simp
       have HP4:Hid (PSt w p t (W3.alloc (.cells #[.string p,.string t] 28))):=(unhide HP3).alloc _
       have HX4:Hid (OneB (W3.alloc (.cells #[.string p,.string t] 28)) (w.heap.size+1) W3.heap.size p t):=OneB.new _ _ (unhide HP3).2 _ _ _
       have HO4:=hide (World.ownsRow.alloc (unhide HO3) (.cells #[.string p,.string t] 28))
       have hown6:∀ jj,v3.ownBlock=some jj→jj<W3.heap.size:=fun jj hjj=>(World.ownsRow.lt (unhide HO3) jj hjj).2
       refine Shut.out hK _ _ ⟨(unhide HP4).3,(unhide HP4).4⟩ (fun _=>?_)
       clear hK K
       obtain ⟨G6,hG6⟩:∃ x,W3.heap.size=x:=⟨_,rfl⟩
       obtain ⟨W4,hW4⟩:∃ x,W3.alloc (.cells #[.string p,.string t] 28)=x:=⟨_,rfl⟩
       rw [hG6,hW4] at HX4
       rw [hW4] at HP4
       rw [hW4] at HO4
       rw [hG6] at hown6
       rw [hG6,hW4]
       refine wpAnyH_ready (rs:=[7]) (by kernel_rfl) (by simp) ?_
       refine AllReadyH.cons rfl (fun K hK=>?_) (AllReadyH.nil)
       refine step_append_own rfl (.tmp 40) (.tmp 42) 23 rfl (w.heap.size+1) 28 i0 (.agg #[.string ⟨#[]⟩,.string ⟨#[]⟩]) 2 32 Tryz.underlying23 hi hz0 hz1 hz2 rfl (by decide) v3 (0+k) ([]++(l.take k).flatMap encF) rfl (unhide HO4) ⟨G6,0,none⟩ (1) (1) (encF ⟨p,t⟩) rfl rfl (unhide HX4).news (encF_one _) (unhide HBd _ (by have:=unhide HN; omega)).1 (unhide HBd _ (by have:=unhide HN; omega)).2 (unhide HP4).2 ?_
       intro v8 W8 hown hgrow hnil
       have HP8:Hid (PSt w p t W8):=(unhide HP4).grown (unhide HO4) hgrow
       have HO8:=hide hown
       have hn8:v8 ≠ .slice none 0 0:=fun e=>hn3 (hnil.1 e).1
       clear hown hgrow hnil
       refine Shut.out hK _ _ ⟨(unhide HP8).3,(unhide HP8).4⟩ (fun _=>?_)
       clear hK K
       refine wpAnyH_ready (rs:=[12]) (by kernel_rfl) (by simp) ?_
       refine AllReadyH.cons rfl (fun K hK=>?_) (AllReadyH.nil)
       refine step_append_own rfl (.tmp 43) (.tmp 47) 23 rfl (w.heap.size+1) 28 i0 (.agg #[.string ⟨#[]⟩,.string ⟨#[]⟩]) 2 32 Tryz.underlying23 hi hz0 hz1 hz2 rfl (by decide) v8 (0+k+1) ([]++(l.take k).flatMap encF++encF ⟨p,t⟩) rfl (unhide HO8) AD (n-(k+1)) (cap-(k+1)) ((l.drop (k+1)).flatMap encF) rfl (unhide HL2) (unhide HTl _ (unhide HP8)) (encs_one _) (unhide HBd _ (by have:=unhide HN; omega)).1 (unhide HBd _ (by have:=unhide HN; omega)).2 (unhide HP8).2 ?_
       intro v9 W9 hown hgrow hnil
       have HP9:Hid (PSt w p t W9):=(unhide HP8).grown (unhide HO8) hgrow
       have HO9:=hide hown
       have hn9:v9 ≠ .slice none 0 0:=fun e=>hn8 (hnil.1 e).1
       clear hown hgrow hnil
       refine Shut.out hK _ _ ⟨(unhide HP9).3,(unhide HP9).4⟩ (fun _=>?_)
       clear hK K
       refine wpAnyH_ready (rs:=[13]) (by kernel_rfl) (by simp) ?_
       refine AllReadyH.cons rfl (fun K hK=>?_) (AllReadyH.nil)
       go_simp
       refine Shut.out hK _ _ ⟨(unhide HP9).3,(unhide HP9).4⟩ (fun _=>?_)
       clear hK K
       refine wpAnyH_done (by kernel_rfl) ?_ _
       go_wp2
       go_ret
       exact l10_endS (unhide HN).1 (unhide HN).2.2.1 (unhide HN).2.2.2.1 (unhide HN).2.2.2.2 hj (by have:=unhide Hk; omega) (by omega) (unhide HP9).below (unhide HO9) hn9 (unhide HPut)
      ·
       go_simp
       have HP3:Hid (PSt w p t (W2.alloc (.cells #[.string p,.string t] 28))):=(unhide HP2).alloc _
       have HX3:Hid (OneB (W2.alloc (.cells #[.string p,.string t] 28)) (w.heap.size+1) W2.heap.size p t):=OneB.new _ _ (unhide HP2).2 _ _ _
       have HO3:=hide (World.ownsRow.alloc (unhide HO2) (.cells #[.string p,.string t] 28))
       have hown6:∀ jj,(Value.slice (some ⟨G0,0,none⟩) 0 0).ownBlock=some jj→jj<W2.heap.size:=fun jj hjj=>(World.ownsRow.lt (unhide HO2) jj hjj).2
       refine Shut.out hK _ _ ⟨(unhide HP3).3,(unhide HP3).4⟩ (fun _=>?_)
       clear hK K
       obtain ⟨G6,hG6⟩:∃ x,W2.heap.size=x:=⟨_,rfl⟩
       obtain ⟨W3,hW3⟩:∃ x,W2.alloc (.cells #[.string p,.string t] 28)=x:=⟨_,rfl⟩
       rw [hG6,hW3] at HX3
       rw [hW3] at HP3
       rw [hW3] at HO3
       rw [hG6] at hown6
       rw [hG6,hW3]
       refine wpAnyH_ready (rs:=[4]) (by kernel_rfl) (by simp) ?_
       refine AllReadyH.cons rfl (fun K hK=>?_) (AllReadyH.nil)
       have hlt0:G0<G6:=hown6 G0 rfl
       refine step_append_own rfl (.tmp 36) (.tmp 39) 23 rfl (w.heap.size+1) 28 i0 (.agg #[.string ⟨#[]⟩,.string ⟨#[]⟩]) 2 32 Tryz.underlying23 hi hz0 hz1 hz2 rfl (by decide) (Value.slice (some ⟨G0,0,none⟩) 0 0) (0) ([]) rfl (unhide HO3) ⟨g,0,none⟩ (k) (cap) ((l.take k).flatMap encF) rfl (unhide HL1) (unhide HTk _ (unhide HP3)) (encs_one _) (unhide HBd _ (by have:=unhide HN; omega)).1 (unhide HBd _ (by have:=unhide HN; omega)).2 (unhide HP3).2 ?_
       intro v4 W4 hown hgrow hnil
       have HP4:Hid (PSt w p t W4):=(unhide HP3).grown (unhide HO3) hgrow
       have HO4:=hide hown
       have HX4:Hid (OneB W4 (w.heap.size+1) G6 p t):=(unhide HX3).grown hgrow (fun e=>by have h6:G6=G0:=Option.some.inj e; omega)
       have hn4:v4 ≠ .slice none 0 0:=fun e=>by have:=(hnil.1 e).1; cases this
       clear hown hgrow hnil
       refine Shut.out hK _ _ ⟨(unhide HP4).3,(unhide HP4).4⟩ (fun _=>?_)
       clear hK K
       refine wpAnyH_ready (rs:=[7]) (by kernel_rfl) (by simp) ?_
       refine AllReadyH.cons rfl (fun K hK=>?_) (AllReadyH.nil)
       refine step_append_own rfl (.tmp 40) (.tmp 42) 23 rfl (w.heap.size+1) 28 i0 (.agg #[.string ⟨#[]⟩,.string ⟨#[]⟩]) 2 32 Tryz.underlying23 hi hz0 hz1 hz2 rfl (by decide) v4 (0+k) ([]++(l.take k).flatMap encF) rfl (unhide HO4) ⟨G6,0,none⟩ (1) (1) (encF ⟨p,t⟩) rfl rfl (unhide HX4).news (encF_one _) (unhide HBd _ (by have:=unhide HN; omega)).1 (unhide HBd _ (by have:=unhide HN; omega)).2 (unhide HP4).2 ?_
       intro v8 W8 hown hgrow hnil
       have HP8:Hid (PSt w p t W8):=(unhide HP4).grown (unhide HO4) hgrow
       have HO8:=hide hown
       have hn8:v8 ≠ .slice none 0 0:=fun e=>hn4 (hnil.1 e).1
       clear hown hgrow hnil
       refine Shut.out hK _ _ ⟨(unhide HP8).3,(unhide HP8).4⟩ (fun _=>?_)
       clear hK K
       refine wpAnyH_ready (rs:=[12]) (by kernel_rfl) (by simp) ?_
       refine AllReadyH.cons rfl (fun K hK=>?_) (AllReadyH.nil)
       refine step_append_own rfl (.tmp 43) (.tmp 47) 23 rfl (w.heap.size+1) 28 i0 (.agg #[.string ⟨#[]⟩,.string ⟨#[]⟩]) 2 32 Tryz.underlying23 hi hz0 hz1 hz2 rfl (by decide) v8 (0+k+1) ([]++(l.take k).flatMap encF++encF ⟨p,t⟩) rfl (unhide HO8) AD (n-(k+1)) (cap-(k+1)) ((l.drop (k+1)).flatMap encF) rfl (unhide HL2) (unhide HTl _ (unhide HP8)) (encs_one _) (unhide HBd _ (by have:=unhide HN; omega)).1 (unhide HBd _ (by have:=unhide HN; omega)).2 (unhide HP8).2 ?_
       intro v9 W9 hown hgrow hnil
       have HP9:Hid (PSt w p t W9):=(unhide HP8).grown (unhide HO8) hgrow
       have HO9:=hide hown
       have hn9:v9 ≠ .slice none 0 0:=fun e=>hn8 (hnil.1 e).1
       clear hown hgrow hnil
       refine Shut.out hK _ _ ⟨(unhide HP9).3,(unhide HP9).4⟩ (fun _=>?_)
       clear hK K
       refine wpAnyH_ready (rs:=[13]) (by kernel_rfl) (by simp) ?_
       refine AllReadyH.cons rfl (fun K hK=>?_) (AllReadyH.nil)
       go_simp
       refine Shut.out hK _ _ ⟨(unhide HP9).3,(unhide HP9).4⟩ (fun _=>?_)
       clear hK K
       refine wpAnyH_done (by kernel_rfl) ?_ _
       go_wp2
       go_ret
       exact l10_endS (unhide HN).1 (unhide HN).2.2.1 (unhide HN).2.2.2.1 (unhide HN).2.2.2.2 hj (by have:=unhide Hk; omega) (by omega) (unhide HP9).below (unhide HO9) hn9 (unhide HPut)
     ·
      go_simp
      have HP2:Hid (PSt w p t (W1.alloc (.cells #[.string p,.string t] 28))):=(unhide HP1).alloc _
      have HX2:Hid (OneB (W1.alloc (.cells #[.string p,.string t] 28)) (w.heap.size+1) W1.heap.size p t):=OneB.new _ _ (unhide HP1).2 _ _ _
      refine Shut.out hK _ _ ⟨(unhide HP2).3,(unhide HP2).4⟩ (fun _=>?_)
      clear hK K
      obtain ⟨G6,hG6⟩:∃ x,W1.heap.size=x:=⟨_,rfl⟩
      obtain ⟨W2,hW2⟩:∃ x,W1.alloc (.cells #[.string p,.string t] 28)=x:=⟨_,rfl⟩
      rw [hG6,hW2] at HX2
      rw [hW2] at HP2
      rw [hG6,hW2]
      refine wpAnyH_ready (rs:=[0]) (by kernel_rfl) (by simp) ?_
      refine AllReadyH.cons rfl (fun K hK=>?_) (AllReadyH.nil)
      go_simp
      have HP3:Hid (PSt w p t (W2.alloc (.cells #[] 28))):=(unhide HP2).alloc _
      have HO3:Hid (World.ownsRow (W2.alloc (.cells #[] 28)) (w.heap.size+1) 28 2 (.slice (some ⟨W2.heap.size,0,none⟩) 0 0) 0 []):=World.ownsRow_lit W2 #[] 0 (unhide HP2).2 (by unfold maxLen; omega) rfl
      have HX3:Hid (OneB (W2.alloc (.cells #[] 28)) (w.heap.size+1) G6 p t):=(unhide HX2).alloc _
      have hlt6:G6<W2.heap.size:=(unhide HX2).2.1
      refine Shut.out hK _ _ ⟨(unhide HP3).3,(unhide HP3).4⟩ (fun _=>?_)
      clear hK K
      obtain ⟨G0,hG0⟩:∃ x,W2.heap.size=x:=⟨_,rfl⟩
      obtain ⟨W3,hW3⟩:∃ x,W2.alloc (.cells #[] 28)=x:=⟨_,rfl⟩
      rw [hG0,hW3] at HO3
      rw [hW3] at HP3
      rw [hW3] at HX3
      rw [hG0,hW3]
      refine wpAnyH_ready (rs:=[4]) (by kernel_rfl) (by simp) ?_
      refine AllReadyH.cons rfl (fun K hK=>?_) (AllReadyH.nil)
      have hlt0:G6<G0:=by omega
      refine step_append_own rfl (.tmp 36) (.tmp 39) 23 rfl (w.heap.size+1) 28 i0 (.agg #[.string ⟨#[]⟩,.string ⟨#[]⟩]) 2 32 Tryz.underlying23 hi hz0 hz1 hz2 rfl (by decide) (Value.slice (some ⟨G0,0,none⟩) 0 0) (0) ([]) rfl (unhide HO3) ⟨g,0,none⟩ (k) (cap) ((l.take k).flatMap encF) rfl (unhide HL1) (unhide HTk _ (unhide HP3)) (encs_one _) (unhide HBd _ (by have:=unhide HN; omega)).1 (unhide HBd _ (by have:=unhide HN; omega)).2 (unhide HP3).2 ?_
      intro v4 W4 hown hgrow hnil
      have HP4:Hid (PSt w p t W4):=(unhide HP3).grown (unhide HO3) hgrow
      have HO4:=hide hown
      have HX4:Hid (OneB W4 (w.heap.size+1) G6 p t):=(unhide HX3).grown hgrow (fun e=>by have h6:G6=G0:=Option.some.inj e; omega)
      have hn4:v4 ≠ .slice none 0 0:=fun e=>by have:=(hnil.1 e).1; cases this
      clear hown hgrow hnil
      refine Shut.out hK _ _ ⟨(unhide HP4).3,(unhide HP4).4⟩ (fun _=>?_)
      clear hK K
      refine wpAnyH_ready (rs:=[7]) (by kernel_rfl) (by simp) ?_
      refine AllReadyH.cons rfl (fun K hK=>?_) (AllReadyH.nil)
      refine step_append_own rfl (.tmp 40) (.tmp 42) 23 rfl (w.heap.size+1) 28 i0 (.agg #[.string ⟨#[]⟩,.string ⟨#[]⟩]) 2 32 Tryz.underlying23 hi hz0 hz1 hz2 rfl (by decide) v4 (0+k) ([]++(l.take k).flatMap encF) rfl (unhide HO4) ⟨G6,0,none⟩ (1) (1) (encF ⟨p,t⟩) rfl rfl (unhide HX4).news (encF_one _) (unhide HBd _ (by have:=unhide HN; omega)).1 (unhide HBd _ (by have:=unhide HN; omega)).2 (unhide HP4).2 ?_
      intro v8 W8 hown hgrow hnil
      have HP8:Hid (PSt w p t W8):=(unhide HP4).grown (unhide HO4) hgrow
      have HO8:=hide hown
      have hn8:v8 ≠ .slice none 0 0:=fun e=>hn4 (hnil.1 e).1
      clear hown hgrow hnil
      refine Shut.out hK _ _ ⟨(unhide HP8).3,(unhide HP8).4⟩ (fun _=>?_)
      clear hK K
      refine wpAnyH_ready (rs:=[12]) (by kernel_rfl) (by simp) ?_
      refine AllReadyH.cons rfl (fun K hK=>?_) (AllReadyH.nil)
      refine step_append_own rfl (.tmp 43) (.tmp 47) 23 rfl (w.heap.size+1) 28 i0 (.agg #[.string ⟨#[]⟩,.string ⟨#[]⟩]) 2 32 Tryz.underlying23 hi hz0 hz1 hz2 rfl (by decide) v8 (0+k+1) ([]++(l.take k).flatMap encF++encF ⟨p,t⟩) rfl (unhide HO8) AD (n-(k+1)) (cap-(k+1)) ((l.drop (k+1)).flatMap encF) rfl (unhide HL2) (unhide HTl _ (unhide HP8)) (encs_one _) (unhide HBd _ (by have:=unhide HN; omega)).1 (unhide HBd _ (by have:=unhide HN; omega)).2 (unhide HP8).2 ?_
      intro v9 W9 hown hgrow hnil
      have HP9:Hid (PSt w p t W9):=(unhide HP8).grown (unhide HO8) hgrow
      have HO9:=hide hown
      have hn9:v9 ≠ .slice none 0 0:=fun e=>hn8 (hnil.1 e).1
      clear hown hgrow hnil
      refine Shut.out hK _ _ ⟨(unhide HP9).3,(unhide HP9).4⟩ (fun _=>?_)
      clear hK K
      refine wpAnyH_ready (rs:=[13]) (by kernel_rfl) (by simp) ?_
      refine AllReadyH.cons rfl (fun K hK=>?_) (AllReadyH.nil)
      go_simp
      refine Shut.out hK _ _ ⟨(unhide HP9).3,(unhide HP9).4⟩ (fun _=>?_)
      clear hK K
      refine wpAnyH_done (by kernel_rfl) ?_ _
      go_wp2
      go_ret
      exact l10_endS (unhide HN).1 (unhide HN).2.2.1 (unhide HN).2.2.2.1 (unhide HN).2.2.2.2 hj (by have:=unhide Hk; omega) (by omega) (unhide HP9).below (unhide HO9) hn9 (unhide HPut)
   ·
    have HBt:Hid (ltP q p=true):=hB
    go_wp2_with fail
    go_quiet (fail)
    go_wp2_with fail
    go_roundw
    case rel=>exact ⟨k+1,by have:=unhide Hk; omega,by go_num,(unhide HP).drewN _,fun j hj=>by
     by_cases e:j=k
     ·
      rw [e,unhide HQ]; exact unhide HBt
     ·
      exact unhide HLo j (by omega)⟩
    case measure=>simp [intOf]; omega
  ·
   have hltI:¬ (k:Int)<(n:Int):=by omega
   have HPut:Hid (putF l ⟨p,t⟩=l.take k++⟨p,t⟩ :: l.drop k):=by
    have hkl:=(unhide HN).1
    have hpos:posP l p=k:=posP_eq (by omega) (unhide HLo) (fun h=>absurd h (by omega))
    have:=putF_new (l:=l) (f:=⟨p,t⟩) (by rw [hpos]; intro h; exact absurd h (by omega))
    rw [hpos] at this; exact this
   go_wp2_with fail
   go_quiet (fail)
   have HPq:=hide ((unhide HP).drewN nq)
   obtain ⟨_,hszq,c0q,c1q⟩:=(unhide HP).drewN nq
   generalize wr.drewN nq=wq at *
   go_wp2_with fail
   go_quiet (fail)
   go_wp2_with fail
   have HP0:=hide ((unhide HPq).drewN nq)
   generalize wq.drewN nq=W0 at *
   have hj:k≤n:=by have:=unhide Hk; omega
   obtain ⟨AD,hAD⟩:∃ AD,(if cap=k then some (⟨g,0,none⟩:Addr) else some ⟨g,(k)*2,none⟩)=some AD:=by split <;> exact ⟨_,rfl⟩
   have HAD:=hide hAD
   clear hAD
   have hkl:k≤l.length:=by rw [(unhide HN).1]; have:=unhide Hk; omega
   have HBd:Hid (∀ x,x≤40→x≤maxLen∧x*32≤140737488355328):=fun x hx=>by unfold maxLen; omega
   have HL1:Hid (((l.take k).flatMap encF).length=k*2):=by show _=_; rw [flatG_len encF_len,List.length_take]; omega
   have HL2:Hid (((l.drop (k)).flatMap encF).length=(n-(k))*2):=by show _=_; rw [flatG_len encF_len,List.length_drop,(unhide HN).1]
   have HTl:Hid (∀ W,PSt w p t W→∀ i u,((l.drop (k)).flatMap encF)[i]?=some u→W.cell? (AD.add i)=some u):=fun W hW i u hu=>by
    have hF:=(unhide HF).later hW.below
    have hlt:i<((l.drop (k)).flatMap encF).length:=(List.getElem?_eq_some_iff.1 hu).1
    rw [unhide HL2] at hlt
    have e:AD=⟨g,(k)*2,none⟩:=by
     have:=unhide HAD
     rw [if_neg (by omega)] at this
     exact (Option.some.inj this).symm
    rw [e]
    exact row_news hF.2 (k) i u hu
   have HTk:Hid (∀ W,PSt w p t W→∀ i u,((l.take k).flatMap encF)[i]?=some u→W.cell? ((⟨g,0,none⟩:Addr).add i)=some u):=fun W hW=>take_news ((unhide HF).later hW.below) k
   refine wp_region_held_drew (S:=fun W=>W.cell? ⟨w.heap.size,0,none⟩=some (.string p)∧W.cell? ⟨w.heap.size,1,none⟩=some (.string t)) hmix ⟨(unhide HP0).3,(unhide HP0).4⟩ (fun hS=>?_)
   refine wpAnyH_take (i:=1) (v:=.slice (some ⟨g,0,none⟩) n cap) rfl (by kernel_rfl) (by kernel_rfl) (by kernel_rfl) (fun _ _ _ h=>h) (Or.inl ⟨by rfl,fun W hSw=>by obtain ⟨hs0,hs1⟩:=hSw; go_simp⟩) hS ?_
   refine wpAnyH_take (i:=2) (v:=.int .i64 (k:Nat)) rfl (by kernel_rfl) (by kernel_rfl) (by kernel_rfl) (fun _ _ _ h=>h) (Or.inl ⟨by rfl,fun W hSw=>by obtain ⟨hs0,hs1⟩:=hSw; go_simp⟩) hS ?_
   refine wpAnyH_take (i:=3) (v:=.slice (some ⟨g,0,none⟩) k cap) rfl (by kernel_rfl) (by kernel_rfl) (by kernel_rfl) (fun _ _ _ h=>h) (Or.inl ⟨by rfl,fun W hSw=>by obtain ⟨hs0,hs1⟩:=hSw; go_simp <;> (intro h; omega)⟩) hS ?_
   refine wpAnyH_take (i:=5) (v:=.agg #[.string p,.string t]) rfl (by kernel_rfl) (by kernel_rfl) (by kernel_rfl) (fun _ _ _ h=>h) (Or.inl ⟨by rfl,fun W hSw=>by obtain ⟨hs0,hs1⟩:=hSw; go_simp⟩) hS ?_
   refine wpAnyH_take (i:=8) (v:=.slice (some ⟨g,0,none⟩) n cap) rfl (by kernel_rfl) (by kernel_rfl) (by kernel_rfl) (fun _ _ _ h=>h) (Or.inl ⟨by rfl,fun W hSw=>by obtain ⟨hs0,hs1⟩:=hSw; go_simp⟩) hS ?_
   refine wpAnyH_take (i:=9) (v:=.int .i64 (k:Nat)) rfl (by kernel_rfl) (by kernel_rfl) (by kernel_rfl) (fun _ _ _ h=>h) (Or.inl ⟨by rfl,fun W hSw=>by obtain ⟨hs0,hs1⟩:=hSw; go_simp⟩) hS ?_
   refine wpAnyH_take (i:=10) (v:=.slice (some AD) (n-(k)) (cap-(k))) rfl (by kernel_rfl) (by kernel_rfl) (by kernel_rfl) (fun _ _ _ h=>h) (Or.inl ⟨by rfl,fun W hSw=>by obtain ⟨hs0,hs1⟩:=hSw; go_simp; first | (rw [if_pos (by omega),unhide HAD]) | (rw [unhide HAD]) | skip⟩) hS ?_
   clear hS
   have HP1:Hid (PSt w p t W0.drew):=(unhide HP0).drew
   generalize W0.drew=W1 at *
   refine wpAnyH_ready (rs:=[0,6]) (by kernel_rfl) (by simp) ?_
   refine AllReadyH.cons rfl (fun K hK=>?_) (AllReadyH.cons rfl (fun K hK=>?_) (AllReadyH.nil))
   ·
    go_simp
    have HP2:Hid (PSt w p t (W1.alloc (.cells #[] 28))):=(unhide HP1).alloc _
    have HO2:Hid (World.ownsRow (W1.alloc (.cells #[] 28)) (w.heap.size+1) 28 2 (.slice (some ⟨W1.heap.size,0,none⟩) 0 0) 0 []):=World.ownsRow_lit W1 #[] 0 (unhide HP1).2 (by unfold maxLen; omega) rfl
    refine Shut.out hK _ _ ⟨(unhide HP2).3,(unhide HP2).4⟩ (fun _=>?_)
    clear hK K
    obtain ⟨G0,hG0⟩:∃ x,W1.heap.size=x:=⟨_,rfl⟩
    obtain ⟨W2,hW2⟩:∃ x,W1.alloc (.cells #[] 28)=x:=⟨_,rfl⟩
    rw [hG0,hW2] at HO2
    rw [hW2] at HP2
    rw [hG0,hW2]
    refine wpAnyH_ready (rs:=[4,6]) (by kernel_rfl) (by simp) ?_
    refine AllReadyH.cons rfl (fun K hK=>?_) (AllReadyH.cons rfl (fun K hK=>?_) (AllReadyH.nil))
    ·
     refine step_append_own rfl (.tmp 49) (.tmp 52) 23 rfl (w.heap.size+1) 28 i0 (.agg #[.string ⟨#[]⟩,.string ⟨#[]⟩]) 2 32 Tryz.underlying23 hi hz0 hz1 hz2 rfl (by decide) (Value.slice (some ⟨G0,0,none⟩) 0 0) (0) ([]) rfl (unhide HO2) ⟨g,0,none⟩ (k) (cap) ((l.take k).flatMap encF) rfl (unhide HL1) (unhide HTk _ (unhide HP2)) (encs_one _) (unhide HBd _ (by have:=unhide HN; omega)).1 (unhide HBd _ (by have:=unhide HN; omega)).2 (unhide HP2).2 ?_
     intro v3 W3 hown hgrow hnil
     have HP3:Hid (PSt w p t W3):=(unhide HP2).grown (unhide HO2) hgrow
     have HO3:=hide hown
     have hn3:v3 ≠ .slice none 0 0:=fun e=>by have:=(hnil.1 e).1; cases this
     clear hown hgrow hnil
     refine Shut.out hK _ _ ⟨(unhide HP3).3,(unhide HP3).4⟩ (fun _=>?_)
     clear hK K
     refine wpAnyH_ready (rs:=[6]) (by kernel_rfl) (by simp) ?_
     refine AllReadyH.cons rfl (fun K hK=>?_) (AllReadyH.nil)
     go_simp
     have HP4:Hid (PSt w p t (W3.alloc (.cells #[.string p,.string t] 28))):=(unhide HP3).alloc _
     have HX4:Hid (OneB (W3.alloc (.cells #[.string p,.string t] 28)) (w.heap.size+1) W3.heap.size p t):=OneB.new _ _ (unhide HP3).2 _ _ _
     have HO4:=hide (World.ownsRow.alloc (unhide HO3) (.cells #[.string p,.string t] 28))
     have hown6:∀ jj,v3.ownBlock=some jj→jj<W3.heap.size:=fun jj hjj=>(World.ownsRow.lt (unhide HO3) jj hjj).2
     refine Shut.out hK _ _ ⟨(unhide HP4).3,(unhide HP4).4⟩ (fun _=>?_)
     clear hK K
     obtain ⟨G6,hG6⟩:∃ x,W3.heap.size=x:=⟨_,rfl⟩
     obtain ⟨W4,hW4⟩:∃ x,W3.alloc (.cells #[.string p,.string t] 28)=x:=⟨_,rfl⟩
     rw [hG6,hW4] at HX4
     rw [hW4] at HP4
     rw [hW4] at HO4
     rw [hG6] at hown6
     rw [hG6,hW4]
     refine wpAnyH_ready (rs:=[7]) (by kernel_rfl) (by simp) ?_
     refine AllReadyH.cons rfl (fun K hK=>?_) (AllReadyH.nil)
     refine step_append_own rfl (.tmp 53) (.tmp 55) 23 rfl (w.heap.size+1) 28 i0 (.agg #[.string ⟨#[]⟩,.string ⟨#[]⟩]) 2 32 Tryz.underlying23 hi hz0 hz1 hz2 rfl (by decide) v3 (0+k) ([]++(l.take k).flatMap encF) rfl (unhide HO4) ⟨G6,0,none⟩ (1) (1) (encF ⟨p,t⟩) rfl rfl (unhide HX4).news (encF_one _) (unhide HBd _ (by have:=unhide HN; omega)).1 (unhide HBd _ (by have:=unhide HN; omega)).2 (unhide HP4).2 ?_
     intro v8 W8 hown hgrow hnil
     have HP8:Hid (PSt w p t W8):=(unhide HP4).grown (unhide HO4) hgrow
     have HO8:=hide hown
     have hn8:v8 ≠ .slice none 0 0:=fun e=>hn3 (hnil.1 e).1
     clear hown hgrow hnil
     refine Shut.out hK _ _ ⟨(unhide HP8).3,(unhide HP8).4⟩ (fun _=>?_)
     clear hK K
     refine wpAnyH_ready (rs:=[11]) (by kernel_rfl) (by simp) ?_
     refine AllReadyH.cons rfl (fun K hK=>?_) (AllReadyH.nil)
     refine step_append_own rfl (.tmp 56) (.tmp 59) 23 rfl (w.heap.size+1) 28 i0 (.agg #[.string ⟨#[]⟩,.string ⟨#[]⟩]) 2 32 Tryz.underlying23 hi hz0 hz1 hz2 rfl (by decide) v8 (0+k+1) ([]++(l.take k).flatMap encF++encF ⟨p,t⟩) rfl (unhide HO8) AD (n-(k)) (cap-(k)) ((l.drop (k)).flatMap encF) rfl (unhide HL2) (unhide HTl _ (unhide HP8)) (encs_one _) (unhide HBd _ (by have:=unhide HN; omega)).1 (unhide HBd _ (by have:=unhide HN; omega)).2 (unhide HP8).2 ?_
     intro v9 W9 hown hgrow hnil
     have HP9:Hid (PSt w p t W9):=(unhide HP8).grown (unhide HO8) hgrow
     have HO9:=hide hown
     have hn9:v9 ≠ .slice none 0 0:=fun e=>hn8 (hnil.1 e).1
     clear hown hgrow hnil
     refine Shut.out hK _ _ ⟨(unhide HP9).3,(unhide HP9).4⟩ (fun _=>?_)
     clear hK K
     refine wpAnyH_ready (rs:=[12]) (by kernel_rfl) (by simp) ?_
     refine AllReadyH.cons rfl (fun K hK=>?_) (AllReadyH.nil)
     go_simp
     refine Shut.out hK _ _ ⟨(unhide HP9).3,(unhide HP9).4⟩ (fun _=>?_)
     clear hK K
     refine wpAnyH_done (by kernel_rfl) ?_ _
     go_wp2
     go_ret
     exact l10_endS (unhide HN).1 (unhide HN).2.2.1 (unhide HN).2.2.2.1 (unhide HN).2.2.2.2 hj (by have:=unhide Hk; omega) (by omega) (unhide HP9).below (unhide HO9) hn9 (unhide HPut)
    ·
     go_simp
     have HP3:Hid (PSt w p t (W2.alloc (.cells #[.string p,.string t] 28))):=(unhide HP2).alloc _
     have HX3:Hid (OneB (W2.alloc (.cells #[.string p,.string t] 28)) (w.heap.size+1) W2.heap.size p t):=OneB.new _ _ (unhide HP2).2 _ _ _
     have HO3:=hide (World.ownsRow.alloc (unhide HO2) (.cells #[.string p,.string t] 28))
     have hown6:∀ jj,(Value.slice (some ⟨G0,0,none⟩) 0 0).ownBlock=some jj→jj<W2.heap.size:=fun jj hjj=>(World.ownsRow.lt (unhide HO2) jj hjj).2
     refine Shut.out hK _ _ ⟨(unhide HP3).3,(unhide HP3).4⟩ (fun _=>?_)
     clear hK K
     obtain ⟨G6,hG6⟩:∃ x,W2.heap.size=x:=⟨_,rfl⟩
     obtain ⟨W3,hW3⟩:∃ x,W2.alloc (.cells #[.string p,.string t] 28)=x:=⟨_,rfl⟩
     rw [hG6,hW3] at HX3
     rw [hW3] at HP3
     rw [hW3] at HO3
     rw [hG6] at hown6
     rw [hG6,hW3]
     refine wpAnyH_ready (rs:=[4]) (by kernel_rfl) (by simp) ?_
     refine AllReadyH.cons rfl (fun K hK=>?_) (AllReadyH.nil)
     have hlt0:G0<G6:=hown6 G0 rfl
     refine step_append_own rfl (.tmp 49) (.tmp 52) 23 rfl (w.heap.size+1) 28 i0 (.agg #[.string ⟨#[]⟩,.string ⟨#[]⟩]) 2 32 Tryz.underlying23 hi hz0 hz1 hz2 rfl (by decide) (Value.slice (some ⟨G0,0,none⟩) 0 0) (0) ([]) rfl (unhide HO3) ⟨g,0,none⟩ (k) (cap) ((l.take k).flatMap encF) rfl (unhide HL1) (unhide HTk _ (unhide HP3)) (encs_one _) (unhide HBd _ (by have:=unhide HN; omega)).1 (unhide HBd _ (by have:=unhide HN; omega)).2 (unhide HP3).2 ?_
     intro v4 W4 hown hgrow hnil
     have HP4:Hid (PSt w p t W4):=(unhide HP3).grown (unhide HO3) hgrow
     have HO4:=hide hown
     have HX4:Hid (OneB W4 (w.heap.size+1) G6 p t):=(unhide HX3).grown hgrow (fun e=>by have h6:G6=G0:=Option.some.inj e; omega)
     have hn4:v4 ≠ .slice none 0 0:=fun e=>by have:=(hnil.1 e).1; cases this
     clear hown hgrow hnil
     refine Shut.out hK _ _ ⟨(unhide HP4).3,(unhide HP4).4⟩ (fun _=>?_)
     clear hK K
     refine wpAnyH_ready (rs:=[7]) (by kernel_rfl) (by simp) ?_
     refine AllReadyH.cons rfl (fun K hK=>?_) (AllReadyH.nil)
     refine step_append_own rfl (.tmp 53) (.tmp 55) 23 rfl (w.heap.size+1) 28 i0 (.agg #[.string ⟨#[]⟩,.string ⟨#[]⟩]) 2 32 Tryz.underlying23 hi hz0 hz1 hz2 rfl (by decide) v4 (0+k) ([]++(l.take k).flatMap encF) rfl (unhide HO4) ⟨G6,0,none⟩ (1) (1) (encF ⟨p,t⟩) rfl rfl (unhide HX4).news (encF_one _) (unhide HBd _ (by have:=unhide HN; omega)).1 (unhide HBd _ (by have:=unhide HN; omega)).2 (unhide HP4).2 ?_
     intro v8 W8 hown hgrow hnil
     have HP8:Hid (PSt w p t W8):=(unhide HP4).grown (unhide HO4) hgrow
     have HO8:=hide hown
     have hn8:v8 ≠ .slice none 0 0:=fun e=>hn4 (hnil.1 e).1
     clear hown hgrow hnil
     refine Shut.out hK _ _ ⟨(unhide HP8).3,(unhide HP8).4⟩ (fun _=>?_)
     clear hK K
     refine wpAnyH_ready (rs:=[11]) (by kernel_rfl) (by simp) ?_
     refine AllReadyH.cons rfl (fun K hK=>?_) (AllReadyH.nil)
     refine step_append_own rfl (.tmp 56) (.tmp 59) 23 rfl (w.heap.size+1) 28 i0 (.agg #[.string ⟨#[]⟩,.string ⟨#[]⟩]) 2 32 Tryz.underlying23 hi hz0 hz1 hz2 rfl (by decide) v8 (0+k+1) ([]++(l.take k).flatMap encF++encF ⟨p,t⟩) rfl (unhide HO8) AD (n-(k)) (cap-(k)) ((l.drop (k)).flatMap encF) rfl (unhide HL2) (unhide HTl _ (unhide HP8)) (encs_one _) (unhide HBd _ (by have:=unhide HN; omega)).1 (unhide HBd _ (by have:=unhide HN; omega)).2 (unhide HP8).2 ?_
     intro v9 W9 hown hgrow hnil
     have HP9:Hid (PSt w p t W9):=(unhide HP8).grown (unhide HO8) hgrow
     have HO9:=hide hown
     have hn9:v9 ≠ .slice none 0 0:=fun e=>hn8 (hnil.1 e).1
     clear hown hgrow hnil
     refine Shut.out hK _ _ ⟨(unhide HP9).3,(unhide HP9).4⟩ (fun _=>?_)
     clear hK K
     refine wpAnyH_ready (rs:=[12]) (by kernel_rfl) (by simp) ?_
     refine AllReadyH.cons rfl (fun K hK=>?_) (AllReadyH.nil)
     go_simp
     refine Shut.out hK _ _ ⟨(unhide HP9).3,(unhide HP9).4⟩ (fun _=>?_)
     clear hK K
     refine wpAnyH_done (by kernel_rfl) ?_ _
     go_wp2
     go_ret
     exact l10_endS (unhide HN).1 (unhide HN).2.2.1 (unhide HN).2.2.2.1 (unhide HN).2.2.2.2 hj (by have:=unhide Hk; omega) (by omega) (unhide HP9).below (unhide HO9) hn9 (unhide HPut)
   ·
    go_simp
    have HP2:Hid (PSt w p t (W1.alloc (.cells #[.string p,.string t] 28))):=(unhide HP1).alloc _
    have HX2:Hid (OneB (W1.alloc (.cells #[.string p,.string t] 28)) (w.heap.size+1) W1.heap.size p t):=OneB.new _ _ (unhide HP1).2 _ _ _
    refine Shut.out hK _ _ ⟨(unhide HP2).3,(unhide HP2).4⟩ (fun _=>?_)
    clear hK K
    obtain ⟨G6,hG6⟩:∃ x,W1.heap.size=x:=⟨_,rfl⟩
    obtain ⟨W2,hW2⟩:∃ x,W1.alloc (.cells #[.string p,.string t] 28)=x:=⟨_,rfl⟩
    rw [hG6,hW2] at HX2
    rw [hW2] at HP2
    rw [hG6,hW2]
    refine wpAnyH_ready (rs:=[0]) (by kernel_rfl) (by simp) ?_
    refine AllReadyH.cons rfl (fun K hK=>?_) (AllReadyH.nil)
    go_simp
    have HP3:Hid (PSt w p t (W2.alloc (.cells #[] 28))):=(unhide HP2).alloc _
    have HO3:Hid (World.ownsRow (W2.alloc (.cells #[] 28)) (w.heap.size+1) 28 2 (.slice (some ⟨W2.heap.size,0,none⟩) 0 0) 0 []):=World.ownsRow_lit W2 #[] 0 (unhide HP2).2 (by unfold maxLen; omega) rfl
    have HX3:Hid (OneB (W2.alloc (.cells #[] 28)) (w.heap.size+1) G6 p t):=(unhide HX2).alloc _
    have hlt6:G6<W2.heap.size:=(unhide HX2).2.1
    refine Shut.out hK _ _ ⟨(unhide HP3).3,(unhide HP3).4⟩ (fun _=>?_)
    clear hK K
    obtain ⟨G0,hG0⟩:∃ x,W2.heap.size=x:=⟨_,rfl⟩
    obtain ⟨W3,hW3⟩:∃ x,W2.alloc (.cells #[] 28)=x:=⟨_,rfl⟩
    rw [hG0,hW3] at HO3
    rw [hW3] at HP3
    rw [hW3] at HX3
    rw [hG0,hW3]
    refine wpAnyH_ready (rs:=[4]) (by kernel_rfl) (by simp) ?_
    refine AllReadyH.cons rfl (fun K hK=>?_) (AllReadyH.nil)
    have hlt0:G6<G0:=by omega
    refine step_append_own rfl (.tmp 49) (.tmp 52) 23 rfl (w.heap.size+1) 28 i0 (.agg #[.string ⟨#[]⟩,.string ⟨#[]⟩]) 2 32 Tryz.underlying23 hi hz0 hz1 hz2 rfl (by decide) (Value.slice (some ⟨G0,0,none⟩) 0 0) (0) ([]) rfl (unhide HO3) ⟨g,0,none⟩ (k) (cap) ((l.take k).flatMap encF) rfl (unhide HL1) (unhide HTk _ (unhide HP3)) (encs_one _) (unhide HBd _ (by have:=unhide HN; omega)).1 (unhide HBd _ (by have:=unhide HN; omega)).2 (unhide HP3).2 ?_
    intro v4 W4 hown hgrow hnil
    have HP4:Hid (PSt w p t W4):=(unhide HP3).grown (unhide HO3) hgrow
    have HO4:=hide hown
    have HX4:Hid (OneB W4 (w.heap.size+1) G6 p t):=(unhide HX3).grown hgrow (fun e=>by have h6:G6=G0:=Option.some.inj e; omega)
    have hn4:v4 ≠ .slice none 0 0:=fun e=>by have:=(hnil.1 e).1; cases this
    clear hown hgrow hnil
    refine Shut.out hK _ _ ⟨(unhide HP4).3,(unhide HP4).4⟩ (fun _=>?_)
    clear hK K
    refine wpAnyH_ready (rs:=[7]) (by kernel_rfl) (by simp) ?_
    refine AllReadyH.cons rfl (fun K hK=>?_) (AllReadyH.nil)
    refine step_append_own rfl (.tmp 53) (.tmp 55) 23 rfl (w.heap.size+1) 28 i0 (.agg #[.string ⟨#[]⟩,.string ⟨#[]⟩]) 2 32 Tryz.underlying23 hi hz0 hz1 hz2 rfl (by decide) v4 (0+k) ([]++(l.take k).flatMap encF) rfl (unhide HO4) ⟨G6,0,none⟩ (1) (1) (encF ⟨p,t⟩) rfl rfl (unhide HX4).news (encF_one _) (unhide HBd _ (by have:=unhide HN; omega)).1 (unhide HBd _ (by have:=unhide HN; omega)).2 (unhide HP4).2 ?_
    intro v8 W8 hown hgrow hnil
    have HP8:Hid (PSt w p t W8):=(unhide HP4).grown (unhide HO4) hgrow
    have HO8:=hide hown
    have hn8:v8 ≠ .slice none 0 0:=fun e=>hn4 (hnil.1 e).1
    clear hown hgrow hnil
    refine Shut.out hK _ _ ⟨(unhide HP8).3,(unhide HP8).4⟩ (fun _=>?_)
    clear hK K
    refine wpAnyH_ready (rs:=[11]) (by kernel_rfl) (by simp) ?_
    refine AllReadyH.cons rfl (fun K hK=>?_) (AllReadyH.nil)
    refine step_append_own rfl (.tmp 56) (.tmp 59) 23 rfl (w.heap.size+1) 28 i0 (.agg #[.string ⟨#[]⟩,.string ⟨#[]⟩]) 2 32 Tryz.underlying23 hi hz0 hz1 hz2 rfl (by decide) v8 (0+k+1) ([]++(l.take k).flatMap encF++encF ⟨p,t⟩) rfl (unhide HO8) AD (n-(k)) (cap-(k)) ((l.drop (k)).flatMap encF) rfl (unhide HL2) (unhide HTl _ (unhide HP8)) (encs_one _) (unhide HBd _ (by have:=unhide HN; omega)).1 (unhide HBd _ (by have:=unhide HN; omega)).2 (unhide HP8).2 ?_
    intro v9 W9 hown hgrow hnil
    have HP9:Hid (PSt w p t W9):=(unhide HP8).grown (unhide HO8) hgrow
    have HO9:=hide hown
    have hn9:v9 ≠ .slice none 0 0:=fun e=>hn8 (hnil.1 e).1
    clear hown hgrow hnil
    refine Shut.out hK _ _ ⟨(unhide HP9).3,(unhide HP9).4⟩ (fun _=>?_)
    clear hK K
    refine wpAnyH_ready (rs:=[12]) (by kernel_rfl) (by simp) ?_
    refine AllReadyH.cons rfl (fun K hK=>?_) (AllReadyH.nil)
    go_simp
    refine Shut.out hK _ _ ⟨(unhide HP9).3,(unhide HP9).4⟩ (fun _=>?_)
    clear hK K
    refine wpAnyH_done (by kernel_rfl) ?_ _
    go_wp2
    go_ret
    exact l10_endS (unhide HN).1 (unhide HN).2.2.1 (unhide HN).2.2.2.1 (unhide HN).2.2.2.2 hj (by have:=unhide Hk; omega) (by omega) (unhide HP9).below (unhide HO9) hn9 (unhide HPut)
end Go.Proofs.YtkdlcomfpffhhaaGreatDoor

/- Contracts of the model's texts that tokens make: tokens that lead back, over this seat's program. -/
import Derived.Test.YtemjckkocljgnaaGreatDoorTt1
import Derived.Test.YtemjckkocljgnaaGreatDoorM9
namespace Go.Proofs.YtemjckkocljgnaaGreatDoor
open Go.RowKit
theorem isB_long {t:Tk} (h:t.2.1≠0):isB t=false:=by simp [isB,h]
set_option maxHeartbeats 3200000 in
theorem l4Add_back (base n cap:Nat) (a:Option Addr) (s:List UInt8) (t:Tk) (w:World) (hn:s.length=n) (h:BOwn w base (.slice a n cap) s) (hm:n≤100000) (hb:base≤w.heap.size) (h0:t.2.1≠0) :
  Calls Tryz.prog 165 #[.slice a n cap,.agg #[.int .i64 t.1,.int .i64 t.2.1,.int .i64 t.2.2]] w fun e w'=>∃ v x,e = .returned (.tuple #[v,.bool (isK t&&decide (t.2.2≤(n:Int)))])∧BOwn w' base v x∧((isK t&&decide (t.2.2≤(n:Int)))=true→x=rep s t.2.2.toNat t.2.1.toNat)∧Below base w w':=by
 obtain ⟨i0,hi,hz0,hz1,hz2⟩:=info_parts Tryz.infoU8
 obtain ⟨x,y,z⟩:=t
 simp only at h0 ⊢
 have hmI:(n:Int)≤100000:=by omega
 have hyb:(y == 0)=false:=by simpa using h0
 have hB1:Below base w (w.alloc (.cells #[.int .i64 x,.int .i64 y,.int .i64 z] 226)):=(Below.refl base w).alloc hb _
 have h1:BOwn (w.alloc (.cells #[.int .i64 x,.int .i64 y,.int .i64 z] 226)) base (.slice a n cap) s:=h.later ((Below.refl w.heap.size w).alloc (Nat.le_refl _) _) (Nat.le_refl _)
 have HN:=hide (And.intro hn hm)
 have H1:=hide (And.intro h1 hB1)
 clear hn hm h h1 hB1
 by_cases hx:x=0
 ·
  subst hx
  cases hy:inB y 3 60
  ·
   have hko:Hid ((isK (0,y,z)&&decide (z≤(n:Int)))=false):=by show _=false; simp [isK,hy]
   go_enter Tryz.func165,Tryz.ntmps165
   go_wp2_with (go_at_call 30; refine (l1In_any _ _ _ _).mono ?_; rintro e w' ⟨rfl,hw'⟩; rw [hw',hy]; clear hw' w')
   go_ret2
   rw [unhide hko]
   exact ⟨_,s,rfl,(unhide H1).1,(fun h=>by cases h),(unhide H1).2⟩
  ·
   cases hz:inB z 1 250
   ·
    have hko:Hid ((isK (0,y,z)&&decide (z≤(n:Int)))=false):=by show _=false; simp [isK,hz]
    go_enter Tryz.func165,Tryz.ntmps165
    go_wp2_with fail
    refine (l1In_any _ _ _ _).mono ?_
    rintro e w' ⟨rfl,hw'⟩
    rw [hw',hy]
    clear hw' w'
    go_wp2_with fail
    refine (l1In_any _ _ _ _).mono ?_
    rintro e w' ⟨rfl,hw'⟩
    rw [hw',hz]
    clear hw' w'
    go_wp2
    go_ret2
    rw [unhide hko]
    exact ⟨_,s,rfl,(unhide H1).1,(fun h=>by cases h),(unhide H1).2⟩
   ·
    obtain ⟨y1,y2⟩:=inB_true.1 hy
    obtain ⟨z1,z2⟩:=inB_true.1 hz
    by_cases hf:z≤(n:Int)
    ·
     have hko:Hid ((isK (0,y,z)&&decide (z≤(n:Int)))=true):=by show _=true; simp [isK,hy,hz,hf]
     obtain ⟨Y,rfl⟩:=Int.eq_ofNat_of_zero_le (show 0≤y by omega)
     obtain ⟨Z,rfl⟩:=Int.eq_ofNat_of_zero_le (show 0≤z by omega)
     have hdz:decide (n<Z)=false:=decide_eq_false (by omega)
     go_enter Tryz.func165,Tryz.ntmps165
     go_wp2_with fail
     refine (l1In_any _ _ _ _).mono ?_
     rintro e w' ⟨rfl,hw'⟩
     rw [hw',hy]
     clear hw' w'
     go_wp2_with fail
     refine (l1In_any _ _ _ _).mono ?_
     rintro e w' ⟨rfl,hw'⟩
     rw [hw',hz]
     clear hw' w'
     go_wp2_with fail
     go_loopw [0,6] (fun v i wr=>∃ k:Nat,k≤Y∧i = .int .i64 k∧BOwn wr base v (rep s Z k)∧wr.heap[w.heap.size]?=some (Obj.cells #[.int .i64 0,.int .i64 (Y:Int),.int .i64 (Z:Int)] 226)∧Below base w wr) (fun _ i _=>Y-(intOf i).toNat)
     case atStart=>exact ⟨0,Nat.zero_le _,rfl,(unhide H1).1,alloc_at _ _,(unhide H1).2⟩
     case round=>
      obtain ⟨k,hk,rfl,hq,hbox,hbel⟩:=hrel
      obtain ⟨c0,c1,c2,hlw⟩:=k3_cells hbox
      have hlen:Hid ((rep s Z k).length=n+k):=by show _=_; rw [rep_len,(unhide HN).1]
      obtain ⟨va,vc,rfl⟩:=hq.formN (unhide hlen)
      have HK:=hide hk
      by_cases hlt:k<Y
      ·
       obtain ⟨g,rfl⟩:=hq.somes (by rw [unhide hlen]; omega)
       obtain ⟨p,hp⟩:∃ p,n+k-Z=p:=⟨_,rfl⟩
       have hpI:((n:Int)+(k:Int))-(Z:Int)=(p:Int):=by omega
       obtain ⟨d0,_,_⟩:=hq.at (j:=p) (unhide hlen) (by omega)
       have hst:Hid (rep s Z (k+1)=rep s Z k++[(rep s Z k).getD p 0]):=by
        show _=_
        simp only [rep]
        rw [unhide hlen,hp]
       have hbs:=Nat.le_trans hb hbel.size
       have bd:Hid (n+k+1≤maxLen∧(n+k+1)*1≤140737488355328):=by show _∧_; have:=(unhide HN).2; unfold maxLen; omega
       have hpn:(p:Int)<(n:Int)+(k:Int):=by omega
       have HQ:=hide (And.intro hq (And.intro hbox hbel))
       have hqo:=hide (hq.own (unhide hlen))
       have Hp:=hide hp
       clear hq hbox hbel hk hp
       generalize (rep s Z k).getD p 0=b at *
       go_wp2_with (at_builtin; refine wpList_append_own _ rfl _ _ 65 rfl base 5 i0 (.int .u8 0) 1 1 Tryz.underlying65 hi hz0 hz1 hz2 rfl (by decide) _ _ _ rfl (World.ownsRow.alloc (unhide hqo) _) ⟨wr.heap.size,0,none⟩ 1 1 [.int .u8 (b.toNat:Int)] rfl rfl (one_new _ _ rfl _ _) (one_byte _) (unhide bd).1 (unhide bd).2 (size_alloc_le hbs _) ?_; intro v' x2 hown hgrow hnil; clear hnil)
       obtain ⟨hq,hbox,hbel⟩:=unhide HQ
       have hb2:=grown_step (v:=.slice (some ⟨g,0,none⟩) (n+k) vc) hgrow (unhide hqo) (Nat.le_refl _) hbs hbel
       have hq2:=bown_snoc (unhide hlen) hown
       rw [←unhide hst] at hq2
       have hbox2:=((KeepT.refl 226 wr).alloc (.cells #[.int .u8 (b.toNat:Int)] 5)).grown (World.ownsRow.alloc (unhide hqo) _) (by decide) hgrow _ _ _ hbox
       clear hown hgrow hq hbox hbel
       go_wp2
       go_roundw
       case rel=>exact ⟨k+1,by have:=unhide HK; omega,by go_num,hq2,hbox2,hb2⟩
       case measure=>simp [intOf]; omega
      ·
       obtain rfl:k=Y:=by omega
       go_wp2
       go_ret2
       rw [unhide hko]
       exact ⟨_,_,rfl,hq,(fun _=>by simp),hbel⟩
    ·
     have hko:Hid ((isK (0,y,z)&&decide (z≤(n:Int)))=false):=by show _=false; simp [hf]
     go_enter Tryz.func165,Tryz.ntmps165
     go_wp2_with fail
     refine (l1In_any _ _ _ _).mono ?_
     rintro e w' ⟨rfl,hw'⟩
     rw [hw',hy]
     clear hw' w'
     go_wp2_with fail
     refine (l1In_any _ _ _ _).mono ?_
     rintro e w' ⟨rfl,hw'⟩
     rw [hw',hz]
     clear hw' w'
     go_wp2
     go_ret2
     rw [unhide hko]
     exact ⟨_,s,rfl,(unhide H1).1,(fun h=>by cases h),(unhide H1).2⟩
 ·
  have hxb:(x == 0)=false:=by simpa using hx
  have hko:Hid ((isK (x,y,z)&&decide (z≤(n:Int)))=false):=by show _=false; simp [isK,hx]
  go_enter Tryz.func165,Tryz.ntmps165
  go_wp2
  go_ret2
  rw [unhide hko]
  exact ⟨_,s,rfl,(unhide H1).1,(fun h=>by cases h),(unhide H1).2⟩
theorem l4Add_any (base n cap:Nat) (a:Option Addr) (s:List UInt8) (t:Tk) (w:World) (hn:s.length=n) (h:BOwn w base (.slice a n cap) s) (hm:n≤100000) (hb:base≤w.heap.size) :
  Calls Tryz.prog 165 #[.slice a n cap,.agg #[.int .i64 t.1,.int .i64 t.2.1,.int .i64 t.2.2]] w fun e w'=>∃ v x,e = .returned (.tuple #[v,.bool (addT s t).isSome])∧BOwn w' base v x∧((addT s t).isSome=true→addT s t=some x)∧Below base w w':=by
 by_cases h0:t.2.1=0
 ·
  have hK:isK t=false:=by
   have:inB t.2.1 3 60=false:=inB_false.2 (by omega)
   simp [isK,this]
  have e:addT s t=if isB t then some (s++[byteT t.1]) else none:=by unfold addT; rw [hK]; rfl
  refine (l4Add_byte base n cap a s t w hn h hm hb h0).mono ?_
  rintro e1 w' ⟨v,x,rfl,ho,hx,hbel⟩
  cases hB:isB t
  ·
   rw [hB] at e hx
   exact ⟨v,x,by rw [e]; rfl,ho,(fun h=>by rw [e] at h; cases h),hbel⟩
  ·
   rw [hB] at e hx
   exact ⟨v,x,by rw [e]; rfl,ho,(fun _=>by rw [e,hx rfl]; rfl),hbel⟩
 ·
  have e:addT s t=if isK t&&decide (t.2.2≤(n:Int)) then some (rep s t.2.2.toNat t.2.1.toNat) else none:=by unfold addT; rw [isB_long h0,hn]; rfl
  refine (l4Add_back base n cap a s t w hn h hm hb h0).mono ?_
  rintro e1 w' ⟨v,x,rfl,ho,hx,hbel⟩
  cases hB:isK t&&decide (t.2.2≤(n:Int))
  ·
   rw [hB] at e hx
   exact ⟨v,x,by rw [e]; rfl,ho,(fun h=>by rw [e] at h; cases h),hbel⟩
  ·
   rw [hB] at e hx
   exact ⟨v,x,by rw [e]; rfl,ho,(fun _=>by rw [e,hx rfl]; rfl),hbel⟩
end Go.Proofs.YtemjckkocljgnaaGreatDoor

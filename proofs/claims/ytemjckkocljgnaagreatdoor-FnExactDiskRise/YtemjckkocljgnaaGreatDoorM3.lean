/- Of what the proof is made: 7 texts, one behind the other. -/
import Derived.Test.YtemjckkocljgnaaGreatDoorRows
import Derived.WalkKit
import Derived.WalkSpells
import Derived.Below
import Derived.Laws.BitsAllLaws
import Derived.Test.YtemjckkocljgnaaGreatDoorBits
import Derived.Test.YtemjckkocljgnaaGreatDoorM1
namespace Go.Proofs.YtemjckkocljgnaaGreatDoor
open Go.RowKit
theorem hide {p:Prop} (h:p):Hid p:=h
theorem unhide {p:Prop} (h:Hid p):p:=h
theorem ret_int {k:IntKind} {a b:Int} (h:a=b):Ending.returned (.int k a) = .returned (.int k b):=by rw [h]
theorem ret_bool {a b:Bool} (h:a=b):Ending.returned (.bool a) = .returned (.bool b):=by rw [h]
def inB (n lo hi:Int):Bool:=decide (lo≤n)&&decide (n≤hi)
theorem inB_true {n lo hi:Int} : inB n lo hi=true↔lo≤n∧n≤hi:=by simp [inB]
theorem inB_false {n lo hi:Int} : inB n lo hi=false↔n<lo∨hi<n:=by
 rw [←Bool.not_eq_true,inB_true]; omega
theorem l1In_any (n lo hi:Int) (w:World) :
  Calls Tryz.prog 30 #[.int .i64 n,.int .i64 lo,.int .i64 hi] w fun e w'=>e = .returned (.bool (inB n lo hi))∧w'=w:=by
 by_cases h:lo≤n
 ·
  go_enter Tryz.func30,Tryz.ntmps30
  go_wp2
  go_ret
  exact ⟨ret_bool (by simp [inB,h]),rfl⟩
 ·
  go_enter Tryz.func30,Tryz.ntmps30
  go_wp2
  go_ret
  exact ⟨ret_bool (by simp [inB]; omega),rfl⟩
end Go.Proofs.YtemjckkocljgnaaGreatDoor
namespace Go.Proofs.YtemjckkocljgnaaGreatDoor
def valB:List UInt8→Nat
 | []=>0
 | b :: l=>b.toNat+256*valB l
theorem valB_append (a b:List UInt8):valB (a++b)=valB a+2 ^ (8*a.length)*valB b:=by
 induction a with
 | nil=>simp [valB]
 | cons x a ih=>
  simp only [List.cons_append,valB,ih,List.length_cons]
  have e:2 ^ (8*(a.length+1))=256*2 ^ (8*a.length):=by rw [Nat.mul_add,Nat.pow_add,Nat.mul_comm]
  rw [e,Nat.mul_add,Nat.mul_assoc]
  omega
theorem valB_lt (l:List UInt8):valB l<2 ^ (8*l.length):=by
 induction l with
 | nil=>simp [valB]
 | cons x l ih=>
  simp only [valB,List.length_cons]
  have e:2 ^ (8*(l.length+1))=256*2 ^ (8*l.length):=by rw [Nat.mul_add,Nat.pow_add,Nat.mul_comm]
  rw [e]
  have:=x.toNat_lt
  omega
theorem valB_get (l:List UInt8) (j:Nat):valB l/2 ^ (8*j)%256=(l.getD j 0).toNat:=by
 induction l generalizing j with
 | nil=>simp [valB]
 | cons x l ih=>
  have hx:=x.toNat_lt
  cases j with
  | zero=>
   simp only [valB,Nat.mul_zero,Nat.pow_zero,Nat.div_one,List.getD_cons_zero]
   omega
  | succ j=>
   simp only [valB,List.getD_cons_succ]
   rw [←ih j,show 8*(j+1)=8+8*j by omega,Nat.pow_add,←Nat.div_div_eq_div_mul]
   congr 2
   show (x.toNat+256*valB l)/256=valB l
   omega
theorem bit_at (l:List UInt8) (p:Nat):(l.getD (p/8) 0).toNat/2 ^ (p%8)%2=valB l/2 ^ p%2:=by
 rw [←valB_get]
 have e8:256=2 ^ (p%8)*2 ^ (8-p%8):=by
  rw [←Nat.pow_add,show p%8+(8-p%8)=8 by omega]
 have e2:2∣2 ^ (8-p%8):=by
  rw [show 8-p%8=(7-p%8)+1 by omega,Nat.pow_succ]
  exact Nat.dvd_mul_left _ _
 rw [e8,Nat.mod_mul_right_div_self,Nat.mod_mod_of_dvd _ e2,Nat.div_div_eq_div_mul,←Nat.pow_add,show 8*(p/8)+p%8=p by omega]
theorem bit_past (l:List UInt8) (p:Nat) (h:8*l.length≤p):valB l/2 ^ p%2=0:=by
 rw [Nat.div_eq_of_lt (Nat.lt_of_lt_of_le (valB_lt l) (Nat.pow_le_pow_right (by omega) h))]
def ordL:List Nat:=[16,17,18,0,8,7,9,6,10,5,11,4,12,3,13,2,14,1,15]
open Go.RowKit
theorem sumOk_any (n:Int) (w:World) :
  Calls Tryz.prog 122 #[.int .i64 n] w fun e w'=>e = .returned (.bool (inB n 0 4294967295))∧w'=w:=by
 by_cases h:0≤n
 ·
  go_enter Tryz.func122,Tryz.ntmps122
  go_wp2
  go_ret
  exact ⟨ret_bool (by simp [inB,h]),rfl⟩
 ·
  go_enter Tryz.func122,Tryz.ntmps122
  go_wp2
  go_ret
  exact ⟨ret_bool (by simp [inB]; omega),rfl⟩
end Go.Proofs.YtemjckkocljgnaaGreatDoor
namespace Go.Proofs.YtemjckkocljgnaaGreatDoor
open Go.RowKit Corb
theorem u32_one (x:Nat) (h:x<4294967296):bits .and .u32 (x:Int) 1=(x:Int)%2:=by
 have:=u32_and_nat x 1 h (by omega)
 rw [show ((1:Nat):Int)=1 from rfl] at this
 rw [this,nat_mask1]; omega
theorem u32_poly (x:Nat) (h:x<4294967296):bits .xor .u32 ((x:Int)/2) 3988292384=((x/2 ^^^ 3988292384:Nat):Int):=by
 have:=u32_xor_nat (x/2) 3988292384 (by omega) (by omega)
 rw [show ((x/2:Nat):Int)=(x:Int)/2 by omega] at this
 exact this
theorem sh_odd (x:Nat) (h:x%2=1):sh x=x/2 ^^^ 3988292384:=if_pos h
theorem sh_even (x:Nat) (h:¬ x%2=1):sh x=x/2:=if_neg h
set_option maxHeartbeats 400000 in
theorem crcShift_any (r n:Int) (w:World) (hr0:0≤r) (hr1:r<4294967296) (hn0:0≤n) (hn1:n≤1000000) :
  Calls Tryz.prog 142 #[.int .u32 r,.int .i64 n] w fun e w'=>e = .returned (.int .u32 (shN n.toNat r.toNat:Nat))∧w'=w:=by
 obtain ⟨R,rfl⟩:=Int.eq_ofNat_of_zero_le hr0
 obtain ⟨m,rfl⟩:=Int.eq_ofNat_of_zero_le hn0
 rw [Int.toNat_natCast,Int.toNat_natCast]
 go_enter Tryz.func142,Tryz.ntmps142
 go_wp2
 go_loop [0,6] (fun x i=>∃ k:Nat,k≤m∧i = .int .i64 k∧x = .int .u32 (shN k R:Nat)) (fun _ i=>m-(intOf i).toNat)
 case atStart=>exact ⟨0,Nat.zero_le _,rfl,rfl⟩
 case round=>
  obtain ⟨k,hk,rfl,rfl⟩:=hrel
  have hx:=shN_lt k R (by omega)
  have hs:=hide (shN_succ' k R)
  by_cases hlt:k<m
  ·
   generalize hX:shN k R=x at *
   have HX:=hide hX
   clear hX
   have h1:=u32_one x hx
   have h2:=u32_poly x hx
   by_cases ho:x%2=1
   ·
    have ho':(x:Int)%2=1:=by omega
    have H:=hide ho
    clear ho
    go_wp2
    go_round
    case rel=>exact ⟨k+1,by omega,by go_num,by rw [unhide hs,sh_odd x (unhide H)]⟩
    case measure=>simp [intOf]; omega
   ·
    have ho':(x:Int)%2=0:=by omega
    have H:=hide ho
    clear ho
    go_wp2
    go_round
    case rel=>exact ⟨k+1,by omega,by go_num,by rw [unhide hs,sh_even x (unhide H)]; rfl⟩
    case measure=>simp [intOf]; omega
  ·
   go_wp2
   go_ret
   exact ⟨ret_int (by rw [show k=m by omega]),rfl⟩
theorem u32_xor_byte (x:Nat) (b:Nat) (h:x<4294967296) (hb:b<256):bits .xor .u32 (x:Int) (b:Int)=((x ^^^ b:Nat):Int):=
 u32_xor_nat x b h (by omega)
set_option maxHeartbeats 400000 in
theorem l2Step_any (c b:Int) (w:World) (hr0:0≤c) (hr1:c<4294967296) (hn0:0≤b) (hn1:b<256) :
  Calls Tryz.prog 86 #[.int .u32 c,.int .u8 b] w fun e w'=>e = .returned (.int .u32 (shN 8 (c.toNat ^^^ b.toNat):Nat))∧w'=w:=by
 obtain ⟨R,rfl⟩:=Int.eq_ofNat_of_zero_le hr0
 obtain ⟨B,rfl⟩:=Int.eq_ofNat_of_zero_le hn0
 rw [Int.toNat_natCast,Int.toNat_natCast]
 have hx0:=u32_xor_byte R B (by omega) (by omega)
 have hlt0:R ^^^ B<4294967296:=Nat.xor_lt_two_pow (n:=32) (by omega) (by omega)
 generalize R ^^^ B=X at *
 go_enter Tryz.func86,Tryz.ntmps86
 go_wp2
 go_loop [0,5] (fun x i=>∃ k:Nat,k≤8∧i = .int .i64 k∧x = .int .u32 (shN k X:Nat)) (fun _ i=>8-(intOf i).toNat)
 case atStart=>exact ⟨0,by omega,rfl,rfl⟩
 case round=>
  obtain ⟨k,hk,rfl,rfl⟩:=hrel
  have hx:=shN_lt k X hlt0
  have hk':(k:Int)≤8:=by omega
  clear hk
  have hs:=hide (shN_succ' k X)
  clear hx0 hlt0
  by_cases hlt:(k:Int)<8
  ·
   generalize hX:shN k X=x at *
   have HX:=hide hX
   clear hX
   have h2:=u32_poly x hx
   by_cases ho:x%2=1
   ·
    have ho':(x:Int)%2=1:=by omega
    have H:=hide ho
    clear ho
    go_wp2
    go_round
    case rel=>exact ⟨k+1,by omega,by go_num,by rw [unhide hs,sh_odd x (unhide H)]⟩
    case measure=>simp [intOf]; omega
   ·
    have ho':(x:Int)%2=0:=by omega
    have H:=hide ho
    clear ho
    go_wp2
    go_round
    case rel=>exact ⟨k+1,by omega,by go_num,by rw [unhide hs,sh_even x (unhide H)]; rfl⟩
    case measure=>simp [intOf]; omega
  ·
   go_wp2
   go_ret
   exact ⟨ret_int (by rw [show k=8 by omega]),rfl⟩
theorem take_snoc (s:ByteArray) (k:Nat) (h:k<s.size):s.data.toList.take (k+1)=s.data.toList.take k++[s[k]]:=by
 rw [List.take_succ_eq_append_getElem (by simpa using h)]; rfl
theorem fold_snoc (c:Nat) (l:List UInt8) (b:UInt8):fold c (l++[b])=shN 8 (fold c l ^^^ b.toNat):=by
 rw [fold_append]; rfl
set_option maxHeartbeats 400000 in
theorem l2More_any (c:Int) (s:ByteArray) (w:World) (h0:0≤c) (h1:c<4294967296) (hs:s.size≤maxLen) :
  Calls Tryz.prog 59 #[.int .u32 c,.string s] w fun e w'=>e = .returned (.int .u32 (crcMore c.toNat s.data.toList:Nat))∧w'=w:=by
 obtain ⟨C,rfl⟩:=Int.eq_ofNat_of_zero_le h0
 rw [Int.toNat_natCast]
 unfold maxLen at hs
 have hx:bits .xor .u32 (C:Int) 4294967295=((C ^^^ full:Nat):Int):=u32_xor_nat C 4294967295 (by omega) (by omega)
 have hxl:C ^^^ full<4294967296:=Nat.xor_lt_two_pow (n:=32) (by omega) (by decide)
 have HF:Hid (crcMore C s.data.toList=fold (C ^^^ full) s.data.toList ^^^ full):=rfl
 generalize C ^^^ full=X at *
 generalize hfin:crcMore C s.data.toList=F at *
 have HFin:=hide hfin
 clear hfin
 go_enter Tryz.func59,Tryz.ntmps59
 go_wp2
 go_loop [5,6] (fun c i=>∃ k:Nat,k≤s.size∧i = .int .i64 k∧c = .int .u32 (fold X (s.data.toList.take k):Nat)) (fun _ i=>s.size-(intOf i).toNat)
 case atStart=>exact ⟨0,Nat.zero_le _,rfl,rfl⟩
 case round=>
  obtain ⟨k,hk,rfl,rfl⟩:=hrel
  have hl:=fold_lt X (s.data.toList.take k) hxl
  by_cases hlt:k<s.size
  ·
   have hsn:Hid (fold X (s.data.toList.take (k+1))=shN 8 (fold X (s.data.toList.take k) ^^^ s[k].toNat)):=by
    rw [take_snoc s k hlt,fold_snoc]; exact rfl
   have hb:(s[k].toNat:Int)<256:=by have:=byte_lt s[k]; omega
   generalize fold X (s.data.toList.take k)=x at *
   clear hx hxl
   go_wp2_with (go_at_call 86; refine (l2Step_any _ _ _ (by omega) (by omega) (by omega) (by omega)).mono ?_; rintro e w' ⟨rfl,rfl⟩)
   go_round
   case rel=>exact ⟨k+1,by omega,by go_num,by rw [unhide hsn]⟩
   case measure=>simp [intOf]; omega
  ·
   have hu:bits .xor .u32 ((fold X (s.data.toList.take k):Nat):Int) 4294967295=((fold X (s.data.toList.take k) ^^^ full:Nat):Int):=u32_xor_nat _ 4294967295 hl (by omega)
   have HE:Hid (fold X (s.data.toList.take k) ^^^ full=F):=by
    have h:=unhide HF
    rw [h,List.take_of_length_le (by simp; omega)]; exact rfl
   generalize fold X (s.data.toList.take k) ^^^ full=v at *
   generalize fold X (s.data.toList.take k)=x at *
   clear hx hxl
   go_wp2
   go_ret
   exact ⟨ret_int (by rw [unhide HE]),rfl⟩
theorem specCrc_any (s:ByteArray) (w:World) (hs:s.size≤maxLen) :
  Calls Tryz.prog 46 #[.string s] w fun e w'=>e = .returned (.int .i64 (crcMore 0 s.data.toList:Nat))∧w'=w:=by
 have hb:crcMore 0 s.data.toList<4294967296:=crcMore_lt _ _ (by omega)
 go_enter Tryz.func46,Tryz.ntmps46
 go_wp2_with (go_at_call 59; refine (l2More_any _ _ _ (by omega) (by omega) hs).mono ?_; rintro e w' ⟨rfl,rfl⟩)
 go_ret
 exact ⟨rfl,rfl⟩
def cmI (c:Int) (l:List UInt8):Int:=if inB c 0 4294967295=true then (crcMore c.toNat l:Nat) else -1
theorem cmI_yes {c:Int} {l:List UInt8} (h:inB c 0 4294967295=true):cmI c l=(crcMore c.toNat l:Nat):=if_pos h
theorem cmI_no {c:Int} {l:List UInt8} (h:inB c 0 4294967295=false):cmI c l = -1:=if_neg (by simp [h])
end Go.Proofs.YtemjckkocljgnaaGreatDoor
namespace Go.Proofs.YtemjckkocljgnaaGreatDoor
theorem ba_of_list {a b:ByteArray} (h:a.data.toList=b.data.toList):a=b:=ByteArray.ext (Array.toList_inj.1 h)
end Go.Proofs.YtemjckkocljgnaaGreatDoor

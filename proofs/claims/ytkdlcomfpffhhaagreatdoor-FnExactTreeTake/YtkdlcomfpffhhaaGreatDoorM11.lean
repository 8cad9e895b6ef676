/- Of what the proof is made: 4 texts, one behind the other. -/
import Derived.Test.YtkdlcomfpffhhaaGreatDoorM8
import Derived.Test.YtkdlcomfpffhhaaGreatDoorM2
import Derived.Test.YtkdlcomfpffhhaaGreatDoorM3
namespace Go.Proofs.YtkdlcomfpffhhaaGreatDoor
open Go.RowKit
structure Grp where
 cnt:Int
 fst:Int
 syms:List Int
 val:Value
def g0:Grp:=⟨0,0,[],.slice none 0 0⟩
end Go.Proofs.YtkdlcomfpffhhaaGreatDoor
namespace Go.Proofs.YtkdlcomfpffhhaaGreatDoor
open Go.RowKit Corb
def longL:List Int:=[0,0,0,0,0,0,0,0,1,1,1,1,2,2,2,2,3,3,3,3,4,4,4,4,5,5,5,5]
def backL:List Int:=[0,0,0,0,1,1,2,2,3,3,4,4,5,5,6,6,7,7,8,8,9,9,10,10,11,11,12,12,13,13]
theorem lit_iown {w:World} (cs:Array Value) (n:Nat) (l:List Int) (hl:l.map (Value.int .i64)=cs.toList) (hn:l.length=n) (hm:n≤maxLen):IOwn (w.alloc (.cells cs 3)) w.heap.size (.slice (some ⟨w.heap.size,0,none⟩) n n) l:=by
 subst hn
 have hs:cs.size=l.length*1:=by
  have:=congrArg List.length hl
  simpa using this.symm
 have:=World.ownsRow_lit (base:=w.heap.size) (e:=3) (size:=1) w cs l.length (Nat.le_refl _) hm hs
 show World.ownsRow _ _ _ _ _ _ _
 rw [hl]
 exact this
theorem longBits_any (w:World) :
  Calls Tryz.prog 260 #[] w fun e w'=>e = .returned (.slice (some ⟨w.heap.size,0,none⟩) 28 28)∧IOwn w' w.heap.size (.slice (some ⟨w.heap.size,0,none⟩) 28 28) longL∧Below w.heap.size w w':=by
 go_enter Tryz.func260,Tryz.ntmps260
 go_wp2
 go_ret
 exact ⟨rfl,lit_iown _ 28 longL rfl rfl (by unfold maxLen; omega),(Below.refl _ _).alloc (Nat.le_refl _) _⟩
theorem backBits_any (w:World) :
  Calls Tryz.prog 261 #[] w fun e w'=>e = .returned (.slice (some ⟨w.heap.size,0,none⟩) 30 30)∧IOwn w' w.heap.size (.slice (some ⟨w.heap.size,0,none⟩) 30 30) backL∧Below w.heap.size w w':=by
 go_enter Tryz.func261,Tryz.ntmps261
 go_wp2
 go_ret
 exact ⟨rfl,lit_iown _ 30 backL rfl rfl (by unfold maxLen; omega),(Below.refl _ _).alloc (Nat.le_refl _) _⟩
def baseN (l:List Int) (f:Int):Nat→Int
 | 0=>f
 | k+1=>baseN l f k+(p2 (l.getD k 0).toNat:Nat)
def baseL (l:List Int) (f:Int) (k:Nat):List Int:=(List.range k).map (baseN l f)
theorem baseL_len (l:List Int) (f:Int) (k:Nat):(baseL l f k).length=k:=by simp [baseL]
theorem baseL_succ (l:List Int) (f:Int) (k:Nat):baseL l f (k+1)=baseL l f k++[baseN l f k]:=by simp [baseL,List.range_succ]
set_option maxRecDepth 100000 in
set_option maxHeartbeats 1600000 in
theorem l5Base_any (a:Option Addr) (cap n:Nat) (l:List Int) (f:Int) (w:World) (hn:l.length=n) (h:IRow w a l) (hm:(n:Int)≤30) (hb:∀ i,i<n→0≤l.getD i 0∧l.getD i 0≤16) (hf:∀ k,k≤n→0≤baseN l f k∧baseN l f k≤100000) :
  Calls Tryz.prog 259 #[.slice a n cap,.int .i64 f] w fun e w'=>∃ v,e = .returned v∧IOwn w' w.heap.size v (baseL l f n)∧Below w.heap.size w w':=by
 obtain ⟨i0,hi,hz0,hz1,hz2⟩:=info_parts Tryz.infoInt
 have hq0:Hid (IOwn (w.alloc (.cells #[] 3)) w.heap.size (.slice (some ⟨w.heap.size,0,none⟩) 0 0) (baseL l f 0)):=IOwn.lit _ _ (Nat.le_refl _)
 have hb0:Hid (Below w.heap.size w (w.alloc (.cells #[] 3))):=(Below.refl _ _).alloc (Nat.le_refl _) _
 have HH:=hide h
 have Hn:=hide hn
 have HB:=hide hb
 have HF:=hide hf
 clear h hn hb hf
 go_enter Tryz.func259,Tryz.ntmps259
 go_wp2_with fail
 go_loopw [1,5,6] (fun fr v i wr=>∃ k:Nat,k≤n∧i = .int .i64 k∧fr = .int .i64 (baseN l f k)∧IOwn wr w.heap.size v (baseL l f k)∧Below w.heap.size w wr) (fun _ _ i _=>n-(intOf i).toNat)
 case atStart=>exact ⟨0,Nat.zero_le _,rfl,rfl,unhide hq0,unhide hb0⟩
 case round=>
  obtain ⟨k,hk,rfl,rfl,hq,hbel⟩:=hrel
  have hlen:Hid ((baseL l f k).length=k):=baseL_len l f k
  obtain ⟨va,vc,rfl⟩:=hq.formN (unhide hlen)
  have hkI:(k:Int)≤30:=by omega
  have HK:=hide hk
  by_cases hlt:k<n
  ·
   have hltI:(k:Int)<(n:Int):=by omega
   have hst:Hid (baseL l f k++[baseN l f k]=baseL l f (k+1)):=(baseL_succ l f k).symm
   have hsf:Hid (baseN l f (k+1)=baseN l f k+(p2 (l.getD k 0).toNat:Nat)):=rfl
   have bd:Hid (k+1≤maxLen∧(k+1)*8≤140737488355328):=by show _∧_; unfold maxLen; omega
   obtain ⟨f0,f1⟩:=unhide HF k (by omega)
   obtain ⟨f2,f3⟩:=unhide HF (k+1) (by omega)
   rw [unhide hsf] at f2 f3
   obtain ⟨y0,y1⟩:=unhide HB k hlt
   have hqo:=hide (hq.own (unhide hlen))
   have HBel:=hide hbel
   have hbs:=hbel.size
   obtain ⟨g,o,rfl,hg,hc⟩:=(unhide HH) (by rw [unhide Hn]; omega)
   have c0:=hc k (by rw [unhide Hn]; exact hlt)
   have HC:Hid (∀ W,Below w.heap.size w W→W.cell? ⟨g,o+k,none⟩=some (.int .i64 (l.getD k 0))):=fun W hW=>(hW.cell (p:=⟨g,o+k,none⟩) hg).trans c0
   have y2:l.getD k 0≤60:=by omega
   have HPw:=hide (fun W=>l1Pow_any (l.getD k 0) W y2)
   clear hq hbel hk hc c0 HH
   generalize hF:baseN l f k=F at *
   generalize hY:l.getD k 0=Y at *
   clear hF hY
   generalize hP:p2 Y.toNat=P at *
   clear hP
   go_wp2_with (first
    | (at_builtin; refine wpList_append_own _ rfl _ _ 146 rfl w.heap.size 3 i0 (.int .i64 0) 1 8 Tryz.underlying146 hi hz0 hz1 hz2 rfl (by decide) (.slice va k vc) _ _ rfl (World.ownsRow.alloc (unhide hqo) _) ⟨wr.heap.size,0,none⟩ 1 1 [.int .i64 F] rfl rfl (one_new _ _ rfl _ _) (one_int _) (unhide bd).1 (unhide bd).2 (size_alloc_le hbs _) ?_; intro v' x2 hown hgrow hnil; clear hnil; have hb2:=grown_step (v:=.slice va k vc) hgrow (unhide hqo) (Nat.le_refl _) hbs (unhide HBel); have hcc:=unhide HC x2 hb2; clear hgrow)
    | (go_at_call 252; refine (unhide HPw _).mono ?_; rintro e w' ⟨rfl,hw⟩; rw [hw]; clear hw))
   have hq2:=iown_snocN (unhide hlen) hown
   rw [unhide hst] at hq2
   clear hown
   go_roundw
   case rel=>exact ⟨k+1,by omega,by go_num,by rw [unhide hsf],hq2,hb2⟩
   case measure=>simp [intOf]; omega
  ·
   obtain rfl:k=n:=by omega
   go_wp2
   go_ret
   exact ⟨_,rfl,hq,hbel⟩
def longB:List Int:=baseL longL 3 28
def backB:List Int:=baseL backL 1 30
theorem longB_is:longB=(List.range 28).map (fun k=>((stF 3 4 k).1:Int)):=by decide +kernel
theorem backB_is:backB=(List.range 30).map (fun k=>((stF 1 2 k).1:Int)):=by decide +kernel
theorem longL_is:longL=(List.range 28).map (fun k=>((stF 3 4 k).2:Int)):=by decide +kernel
theorem backL_is:backL=(List.range 30).map (fun k=>((stF 1 2 k).2:Int)):=by decide +kernel
theorem getD_range (f:Nat→Int) (n k:Nat) (h:k<n):((List.range n).map f).getD k 0=f k:=by simp [List.getD,h]
theorem longB_at (k:Nat) (h:k<28):longB.getD k 0=((stF 3 4 k).1:Int):=by rw [longB_is]; exact getD_range _ _ _ h
theorem backB_at (k:Nat) (h:k<30):backB.getD k 0=((stF 1 2 k).1:Int):=by rw [backB_is]; exact getD_range _ _ _ h
theorem longL_at (k:Nat) (h:k<28):longL.getD k 0=((stF 3 4 k).2:Int):=by rw [longL_is]; exact getD_range _ _ _ h
theorem backL_at (k:Nat) (h:k<30):backL.getD k 0=((stF 1 2 k).2:Int):=by rw [backL_is]; exact getD_range _ _ _ h
theorem l5BaseLong_any (a:Option Addr) (cap:Nat) (w:World) (h:IRow w a longL) :
  Calls Tryz.prog 259 #[.slice a 28 cap,.int .i64 3] w fun e w'=>∃ v,e = .returned v∧IOwn w' w.heap.size v longB∧Below w.heap.size w w':=
 l5Base_any a cap 28 longL 3 w rfl h (by omega) (by decide +kernel) (by decide +kernel)
theorem l5BaseBack_any (a:Option Addr) (cap:Nat) (w:World) (h:IRow w a backL) :
  Calls Tryz.prog 259 #[.slice a 30 cap,.int .i64 1] w fun e w'=>∃ v,e = .returned v∧IOwn w' w.heap.size v backB∧Below w.heap.size w w':=
 l5Base_any a cap 30 backL 1 w rfl h (by omega) (by decide +kernel) (by decide +kernel)
def ordI:List Int:=ordL.map fun (i:Nat)=>(i:Int)
theorem ordI_len:ordI.length=19:=rfl
theorem ordI_get (j:Nat) (h:j<19):ordI.getD j 0=(ordL.getD j 0:Nat):=by
 have hj:j<ordL.length:=h
 unfold ordI
 simp [List.getD,hj]
theorem l5Order_any (w:World):Calls Tryz.prog 256 #[] w fun e w'=>(∃ g,e = .returned (.slice (some ⟨g,0,none⟩) 19 19)∧IOwn w' w.heap.size (.slice (some ⟨g,0,none⟩) 19 19) ordI)∧Below w.heap.size w w':=by
 go_enter Tryz.func256,Tryz.ntmps256
 go_wp2
 go_ret
 exact ⟨⟨_,rfl,lit_iown _ 19 ordI rfl rfl (by unfold maxLen; omega)⟩,(Below.refl _ _).alloc (Nat.le_refl _) _⟩
theorem l5Order_at (w:World):Calls Tryz.prog 256 #[] w fun e w'=>e = .returned (.slice (some ⟨w.heap.size,0,none⟩) 19 19)∧IOwn w' w.heap.size (.slice (some ⟨w.heap.size,0,none⟩) 19 19) ordI∧Below w.heap.size w w':=by
 go_enter Tryz.func256,Tryz.ntmps256
 go_wp2
 go_ret
 exact ⟨rfl,lit_iown _ 19 ordI rfl rfl (by unfold maxLen; omega),(Below.refl _ _).alloc (Nat.le_refl _) _⟩
end Go.Proofs.YtkdlcomfpffhhaaGreatDoor

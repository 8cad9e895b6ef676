/- Of what the proof is made: 3 texts, one behind the other. -/
import Derived.Test.YtemjckkocljgnaaGreatDoorM39
import Derived.Test.YtemjckkocljgnaaGreatDoorM38
import Derived.Lib.ItoaNum
import Derived.Lib.IndexMore
import Derived.Test.YtemjckkocljgnaaGreatDoorM17
import Derived.Test.YtemjckkocljgnaaGreatDoorM4
namespace Go.Proofs.YtemjckkocljgnaaGreatDoor
open Corb
open Go.Lib (decDigits)
set_option maxRecDepth 100000
def figS (n:Nat) (b:UInt8):Nat:=n*10+(b.toNat-48)
def figV (l:List UInt8):Nat:=l.foldl figS 0
def figB (b:UInt8):Bool:=decide (48≤b.toNat)&&decide (b.toNat≤57)
def figO (l:List UInt8):Prop:=l≠[]∧(∀ b∈l,figB b=true)∧¬ (1<l.length∧l.head?=some 48)
instance (l:List UInt8):Decidable (figO l):=inferInstanceAs (Decidable (_∧_∧_))
def numF (l:List UInt8):Int:=if figO l∧l.length≤6 then (figV l:Int) else -1
theorem figV_snoc (m:List UInt8) (d:UInt8):figV (m++[d])=figV m*10+(d.toNat-48):=by
 unfold figV; rw [List.foldl_append]; rfl
theorem fold_pos:∀ (l:List UInt8) (a:Nat),0<a→0<l.foldl figS a
 | [],_,h=>h
 | b :: l,a,h=>fold_pos l (figS a b) (by unfold figS; omega)
theorem fig_pos {m:List UInt8} (h:m≠[]) (ha:∀ b∈m,figB b=true) (hh:m.head?≠some 48):0<figV m:=by
 cases m with
 | nil=>exact absurd rfl h
 | cons b m=>
  have hb:=ha b (by simp)
  simp only [figB,Bool.and_eq_true,decide_eq_true_eq] at hb
  have:b.toNat≠48:=fun e=>hh (by rw [List.head?_cons]; congr 1; exact UInt8.toNat_inj.1 (by rw [e]; rfl))
  exact fold_pos m _ (by unfold figS; omega)
theorem byte_fig {d:UInt8} (h:figB d=true):UInt8.ofNat (48+(d.toNat-48))=d:=by
 simp only [figB,Bool.and_eq_true,decide_eq_true_eq] at h
 rw [show 48+(d.toNat-48)=d.toNat by omega]
 exact UInt8.ofNat_toNat
theorem dec_fig:∀ (n:Nat) (l:List UInt8),l.length=n→figO l→decDigits (figV l)=l
 | 0,l,hl,h=>absurd (List.eq_nil_of_length_eq_zero hl) h.1
 | n+1,l,hl,h=>by
  obtain ⟨h1,h2,h3⟩:=h
  obtain ⟨m,d,rfl⟩:∃ m d,l=m++[d]:=⟨l.dropLast,l.getLast h1,(List.dropLast_concat_getLast h1).symm⟩
  have hd:figB d=true:=h2 d (by simp)
  have hd2:=hd
  simp only [figB,Bool.and_eq_true,decide_eq_true_eq] at hd2
  rw [figV_snoc]
  by_cases hm:m=[]
  ·
   subst hm
   have e:figV []*10+(d.toNat-48)=d.toNat-48:=by show 0*10+_=_; omega
   rw [e,decDigits,dif_pos (by omega),byte_fig hd]; rfl
  ·
   have hln:m.length=n:=by simp at hl; exact hl
   have hhd:(m++[d]).head?=m.head?:=by cases m with
    | nil=>exact absurd rfl hm
    | cons b m=>rfl
   have hlen:0<m.length:=by cases m with
    | nil=>exact absurd rfl hm
    | cons b m=>simp
   have hh:m.head?≠some 48:=fun e=>h3 ⟨by simp; omega,by rw [hhd]; exact e⟩
   have hp:=fig_pos hm (fun b hb=>h2 b (by simp [hb])) hh
   have ih:=dec_fig n m hln ⟨hm,fun b hb=>h2 b (by simp [hb]),fun e=>hh e.2⟩
   rw [decDigits,dif_neg (by omega),show (figV m*10+(d.toNat-48))/10=figV m by omega,show (figV m*10+(d.toNat-48))%10=d.toNat-48 by omega,ih,byte_fig hd]
theorem fig_dec (n:Nat):figV (decDigits n)=n∧(decDigits n≠[]∧∀ b∈decDigits n,figB b=true)∧(1≤n→(decDigits n).head?≠some 48):=by
 induction n using Nat.strongRecOn with
 | _ n ih=>
  have hb:∀ k,k<10→(UInt8.ofNat (48+k)).toNat=48+k:=fun k hk=>by rw [UInt8.toNat_ofNat']; omega
  by_cases h:n<10
  ·
   rw [decDigits,dif_pos h]
   refine ⟨?_,⟨by simp,?_⟩,?_⟩
   ·
    show 0*10+((UInt8.ofNat (48+n)).toNat-48)=n
    rw [hb n h]; omega
   ·
    intro b hm
    rw [List.mem_singleton.1 hm]
    simp only [figB,hb n h,Bool.and_eq_true,decide_eq_true_eq]; omega
   ·
    intro h1 e
    rw [List.head?_cons,Option.some.injEq] at e
    have:=congrArg UInt8.toNat e
    rw [hb n h] at this
    have h48:(48:UInt8).toNat=48:=rfl
    omega
  ·
   obtain ⟨i1,⟨i2,i3⟩,i4⟩:=ih (n/10) (by omega)
   rw [decDigits,dif_neg h]
   refine ⟨?_,⟨by simp,?_⟩,?_⟩
   ·
    rw [figV_snoc,i1,hb (n%10) (by omega)]; omega
   ·
    intro b hm
    rcases List.mem_append.1 hm with hm | hm
    ·
     exact i3 b hm
    ·
     rw [List.mem_singleton.1 hm]
     simp only [figB,hb (n%10) (by omega),Bool.and_eq_true,decide_eq_true_eq]; omega
   ·
    intro _
    have hhd:(decDigits (n/10)++[UInt8.ofNat (48+n%10)]).head?=(decDigits (n/10)).head?:=by
     cases hc:decDigits (n/10) with
     | nil=>exact absurd hc i2
     | cons b m=>rfl
    rw [hhd]; exact i4 (by omega)
theorem dec_len:∀ (k n:Nat),n<10 ^ (k+1)→(decDigits n).length≤k+1
 | 0,n,h=>by rw [decDigits,dif_pos (by simpa using h)]; simp
 | k+1,n,h=>by
  by_cases h10:n<10
  ·
   rw [decDigits,dif_pos h10]; simp
  ·
   rw [decDigits,dif_neg h10]
   have:=dec_len k (n/10) (by rw [Nat.pow_succ] at h; omega)
   simp; omega
theorem num_is {l:List UInt8} {n:Nat} : numF l=(n:Int)↔l=decDigits n∧n<1000000:=by
 unfold numF
 constructor
 ·
  intro h
  split at h
  ·
   rename_i hc
   have hn:figV l=n:=by omega
   have e:=dec_fig _ l rfl hc.1
   rw [hn] at e
   refine ⟨e.symm,?_⟩
   have h1:=Lib.lt_pow_nDigits n
   have h2:Lib.nDigits n≤6:=by rw [←Lib.decDigits_length,e]; exact hc.2
   have h3:10 ^ Lib.nDigits n≤10 ^ 6:=Nat.pow_le_pow_right (by decide) h2
   have h4:(10:Nat) ^ 6=1000000:=by decide
   omega
  ·
   omega
 ·
  rintro ⟨rfl,hn⟩
  obtain ⟨h1,⟨h2,h3⟩,h4⟩:=fig_dec n
  have hl:=dec_len 5 n (by simpa using hn)
  have hno:¬ (1<(decDigits n).length∧(decDigits n).head?=some 48):=by
   rintro ⟨e1,e2⟩
   by_cases h0:1≤n
   ·
    exact h4 h0 e2
   ·
    have:n=0:=by omega
    subst this
    rw [decDigits,dif_pos (by decide)] at e1
    exact absurd e1 (by simp)
  rw [if_pos ⟨⟨h2,h3,hno⟩,hl⟩,h1]
theorem loc_small {x T:ByteArray} (h:locG x=some T):locN x≤800:=by
 obtain ⟨hd,hE⟩:=loc_some h
 obtain ⟨h30,hfx,hto⟩:=hdB_is.1 hd
 have hn:=(ent_facts (n:=(enO x T).n) (t:=(enO x T).t) hE).1
 have hn2:(nmB x).size≤43:=hn
 rw [nmB_size (by omega)] at hn2
 have hbd:=bdB_size (s:=x) hto
 have hl:=loc_en hd
 by_cases hb:enB (wd x.data.toList 8 2) (wd x.data.toList 10 4) (wd x.data.toList 14 4) (wd x.data.toList 22 4) (nmB x) (bdB x)=true
 ·
  have:=en_small hb
  unfold locN
  omega
 ·
  rw [if_neg hb] at hl
  have:=rd_no hl
  rw [h] at this
  cases this
theorem zst_short {s:ByteArray} : ∀ {k:Nat} {q:List En×ByteArray×Nat},zst s k=some q→q.2.2≤800*k
 | 0,q,h=>by cases h; exact Nat.zero_le _
 | k+1,q,h=>by
  obtain ⟨r,T,h1,h2,rfl⟩:=zst_step h
  have a:=zst_short h1
  have b:=loc_small h2
  show r.2.2+locN (sub s r.2.2)≤_
  omega
theorem zipG_short {s:ByteArray} {l:List En} (h:zipG s=some l):s.size≤6000:=by
 obtain ⟨m,q,h1,_,h3,h4⟩:=zipG_some h
 have h6:=(zip_all h3).2
 obtain ⟨a1,a2,_,_,a5⟩:=zst_at h1
 have h5:=zst_short h1
 have e:=congrArg ByteArray.size h4
 rw [sub_size,ByteArray.size_append,endB_size] at e
 omega
def toldT (x:ByteArray):ByteArray:=⟨(decDigits x.size).toArray⟩++⟨#[10]⟩++x
theorem told_bytes (x:ByteArray):(toldT x).data.toList=decDigits x.size++(10 :: x.data.toList):=by
 simp [toldT]
def nextT (l:ByteArray) (i:Nat):ByteArray:=l.extract (i+1) l.size
theorem next_list (l:ByteArray) (i:Nat):(nextT l i).data.toList=l.data.toList.drop (i+1):=by
 rw [nextT,ext_list]; exact List.take_of_length_le (by simp)
theorem told_iff {l:ByteArray} {i:Nat} (h:Lib.indexByte l.data.toList 10=(i:Int)):l=toldT (nextT l i)↔l.data.toList.take i=decDigits (nextT l i).size:=by
 obtain ⟨h1,_⟩:=Lib.indexByte_some h
 have hi:i<l.data.toList.length:=(List.getElem?_eq_some_iff.1 h1).1
 have e0:l.data.toList=l.data.toList.take i++(10 :: l.data.toList.drop (i+1)):=by
  conv=>lhs; rw [←List.take_append_drop i l.data.toList,List.drop_eq_getElem_cons hi]
  rw [(List.getElem?_eq_some_iff.1 h1).2]
 constructor
 ·
  intro e
  have e1:=congrArg (fun y:ByteArray=>y.data.toList) e
  simp only [told_bytes,next_list] at e1
  rw [e0] at e1
  have hl:(l.data.toList.take i).length=(decDigits (nextT l i).size).length:=by
   have:=congrArg List.length e1
   simp only [List.length_append,List.length_cons] at this
   rw [←e0] at this
   omega
  rw [←e0] at e1
  exact (List.append_inj (by rw [←e0]; exact e1) hl).1
 ·
  intro e
  apply ba_of_list
  rw [told_bytes,next_list,←e]; exact e0
theorem told_no {l x:ByteArray} (h:Lib.indexByte l.data.toList 10 = -1):l≠toldT x:=by
 intro e
 have h1:=Lib.indexByte_none h (decDigits x.size).length
 rw [e,told_bytes,List.getElem?_append_right (Nat.le_refl _),Nat.sub_self] at h1
 exact h1 rfl
def riseO (l:ByteArray):Option ByteArray:=if 0≤Lib.indexByte l.data.toList 10 then (if l=toldT (nextT l (Lib.indexByte l.data.toList 10).toNat)∧(zipG (nextT l (Lib.indexByte l.data.toList 10).toNat)).isSome=true then some (nextT l (Lib.indexByte l.data.toList 10).toNat) else none) else none
theorem rise_no {l:ByteArray} (h:Lib.indexByte l.data.toList 10 = -1):riseO l=none:=by unfold riseO; rw [h,if_neg (by decide)]
theorem rise_at {l:ByteArray} {i:Nat} (h:Lib.indexByte l.data.toList 10=(i:Int)):riseO l=if l=toldT (nextT l i)∧(zipG (nextT l i)).isSome=true then some (nextT l i) else none:=by
 unfold riseO; rw [h,if_pos (by omega),Int.toNat_natCast]
theorem rise_num {l:ByteArray} {i:Nat} (h:Lib.indexByte l.data.toList 10=(i:Int)):riseO l=if numF (l.data.toList.take i)=((nextT l i).size:Int)∧(zipG (nextT l i)).isSome=true then some (nextT l i) else none:=by
 rw [rise_at h]
 have:(l=toldT (nextT l i)∧(zipG (nextT l i)).isSome=true)↔(numF (l.data.toList.take i)=((nextT l i).size:Int)∧(zipG (nextT l i)).isSome=true):=by
  rw [num_is,told_iff h]
  constructor
  ·
   rintro ⟨a,b⟩
   obtain ⟨l',hl'⟩:=Option.isSome_iff_exists.1 b
   have:=zipG_short hl'
   exact ⟨⟨a,by omega⟩,b⟩
  ·
   rintro ⟨⟨a,_⟩,b⟩
   exact ⟨a,b⟩
 by_cases hc:l=toldT (nextT l i)∧(zipG (nextT l i)).isSome=true
 ·
  rw [if_pos hc,if_pos (this.1 hc)]
 ·
  rw [if_neg hc,if_neg (fun e=>hc (this.2 e))]
end Go.Proofs.YtemjckkocljgnaaGreatDoor
namespace Go.Proofs.YtemjckkocljgnaaGreatDoor
open Go.RowKit Corb
open Go.Lib (decDigits)
set_option maxRecDepth 100000
theorem dec_small {n:Nat} (h:n<10):decDigits n=[UInt8.ofNat (48+n)]:=by rw [decDigits,dif_pos h]
theorem dec_big {n:Nat} (h:¬ n<10):decDigits n=decDigits (n/10)++[UInt8.ofNat (48+n%10)]:=by rw [decDigits,dif_neg h]
theorem dec_size (n:Nat) (h:n≤9999999):(decDigits n).length≤7:=dec_len 6 n (by omega)
set_option maxHeartbeats 6400000 in
theorem l1Dec_any (n:Nat):n≤2000000→∀ w,Calls Tryz.prog 24 #[.int .i64 (n:Nat)] w fun e w'=>e = .returned (.string ⟨(decDigits n).toArray⟩)∧Below w.heap.size w w':=by
 have hmix:Tryz.prog.follows .mixedOrders=true:=by kernel_rfl
 induction n using Nat.strongRecOn with
 | _ n ih=>
  intro hn w
  have hnI:(n:Int)≤2000000:=by omega
  by_cases h:n<10
  ·
   obtain ⟨y,hy⟩:∃ y,48+n=y:=⟨_,rfl⟩
   have HD:=hide (dec_small h)
   rw [hy] at HD
   have h10:(n:Int)<10:=by omega
   have e5:(48:Int)+(n:Int)=(y:Int):=by omega
   have hyb:(y:Int)<58:=by omega
   have hu:IntKind.u8.wrap (y:Int)=(y:Int):=by simp only [IntKind.wrap,IntKind.bits,IntKind.signed]; simp; omega
   have hcv:=(one_text w w.heap.size y (Nat.le_refl _) (by omega)).text
   have HB:=hide ((Below.refl w.heap.size w).alloc (Nat.le_refl _) (.cells #[.int .u8 (y:Int)] 5))
   clear hy ih hn
   go_enter Tryz.func24,Tryz.ntmps24
   go_wp2
   go_ret
   exact ⟨by rw [unhide HD]; rfl,unhide HB⟩
  ·
   obtain ⟨y,hy⟩:∃ y,48+n%10=y:=⟨_,rfl⟩
   obtain ⟨q,hq⟩:∃ q,n/10=q:=⟨_,rfl⟩
   have HD:=hide (dec_big h)
   rw [hy,hq] at HD
   have C:=hide (ih q (by omega) (by omega))
   have h10:¬ (n:Int)<10:=by omega
   have hqI:(q:Int)≤2000000:=by omega
   have e1:Int.tmod (n:Int) 10=(y:Int)-48:=by rw [Int.tmod_eq_emod_of_nonneg (by omega)]; omega
   have e2:Int.tdiv (n:Int) 10=(q:Int):=by rw [Int.tdiv_eq_ediv_of_nonneg (by omega)]; omega
   have e3:(n:Int)%10=(y:Int)-48:=by omega
   have e4:(n:Int)/10=(q:Int):=by omega
   have e5:(48:Int)+((y:Int)-48)=(y:Int):=by omega
   have hyb:(y:Int)<58:=by omega
   have hyN:y<256:=by omega
   have hu:IntKind.u8.wrap (y:Int)=(y:Int):=by simp only [IntKind.wrap,IntKind.bits,IntKind.signed]; simp; omega
   have wq:IntKind.i64.wrap (q:Int)=(q:Int):=by rw [IntKind.wrap_i64]; omega
   have wy:IntKind.i64.wrap (y:Int)=(y:Int):=by rw [IntKind.wrap_i64]; omega
   have hz:=dec_size q (by omega)
   obtain ⟨D,hD⟩:∃ D,(⟨(decDigits q).toArray⟩:ByteArray)=D:=⟨_,rfl⟩
   have hDz:D.size≤7:=by rw [←hD]; exact hz
   have hno:¬ 9223372036854775807<D.size+(⟨#[UInt8.ofNat y]⟩:ByteArray).size:=by show ¬ _<D.size+1; omega
   have hno2:D.size≤9223372036854775806:=by omega
   have HRes:Hid ((⟨(decDigits n).toArray⟩:ByteArray)=D++⟨#[UInt8.ofNat y]⟩):=by
    show _=_
    rw [unhide HD,←hD]
    apply ba_of_list
    simp
   rw [hD] at C
   clear hy hq ih hn hz hD hDz HD
   go_enter Tryz.func24,Tryz.ntmps24
   go_wp2_with fail
   have HB0:Hid (Below w.heap.size w w.drew):=(Below.refl _ _).drew
   refine wp_region_held_drew (S:=fun W=>Below w.heap.size w W) hmix (unhide HB0) (fun hS=>?_)
   refine wpAnyH_take (i:=0) (v:=.int .i64 (n:Nat)) rfl (by kernel_rfl) (by kernel_rfl) (by kernel_rfl) (fun _ _ _ h=>h) (Or.inl ⟨by rfl,fun W hSw=>by go_simp⟩) hS ?_
   refine wpAnyH_take (i:=1) (v:=.int .i64 (q:Nat)) rfl (by kernel_rfl) (by kernel_rfl) (by kernel_rfl) (fun _ _ _ h=>h) (Or.inl ⟨by rfl,fun W hSw=>by go_simp⟩) hS ?_
   refine wpAnyH_take (i:=3) (v:=.int .i64 (n:Nat)) rfl (by kernel_rfl) (by kernel_rfl) (by kernel_rfl) (fun _ _ _ h=>h) (Or.inl ⟨by rfl,fun W hSw=>by go_simp⟩) hS ?_
   refine wpAnyH_take (i:=4) (v:=.int .i64 ((y:Int)-48)) rfl (by kernel_rfl) (by kernel_rfl) (by kernel_rfl) (fun _ _ _ h=>h) (Or.inl ⟨by rfl,fun W hSw=>by go_simp⟩) hS ?_
   refine wpAnyH_take (i:=5) (v:=.int .i64 (y:Int)) rfl (by kernel_rfl) (by kernel_rfl) (by kernel_rfl) (fun _ _ _ h=>h) (Or.inl ⟨by rfl,fun W hSw=>by go_simp⟩) hS ?_
   refine wpAnyH_take (i:=6) (v:=.int .u8 (y:Int)) rfl (by kernel_rfl) (by kernel_rfl) (by kernel_rfl) (fun _ _ _ h=>h) (Or.inl ⟨by rfl,fun W hSw=>by go_simp⟩) hS ?_
   refine wpAnyH_ready (rs:=[2,7]) (by kernel_rfl) (by simp) ?_
   refine AllReadyH.cons rfl (fun K hK=>?_) (AllReadyH.cons rfl (fun K hK=>?_) AllReadyH.nil)
   ·
    go_simp
    go_at_call 24
    refine (unhide C _).mono ?_
    rintro e x1 ⟨rfl,Bd⟩
    have HB1:=hide (bnext (unhide HB0) Bd)
    have HA:=hide ((unhide HB1).alloc (unhide HB1).size (.cells #[.int .u8 (y:Int)] 5))
    have hcv:=(one_text x1 w.heap.size y (unhide HB1).size hyN).text
    refine Shut.out hK _ _ (unhide HB1) (fun hS=>?_)
    clear hK K Bd
    refine wpAnyH_ready (rs:=[7]) (by kernel_rfl) (by simp) ?_
    refine AllReadyH.cons rfl (fun K hK=>?_) AllReadyH.nil
    go_simp
    refine Shut.out hK _ _ (unhide HA) (fun hS=>?_)
    clear hK K
    refine wpAnyH_ready (rs:=[8]) (by kernel_rfl) (by simp) ?_
    refine AllReadyH.cons rfl (fun K hK=>?_) AllReadyH.nil
    go_simp
    refine Shut.out hK _ _ (unhide HA) (fun hS=>?_)
    clear hK K
    refine wpAnyH_take (i:=9) (v:=.string (D++⟨#[UInt8.ofNat y]⟩)) rfl (by kernel_rfl) (by kernel_rfl) (by kernel_rfl) (fun _ _ _ h=>h) (Or.inl ⟨by rfl,fun W hSw=>by go_simp⟩) hS ?_
    refine wpAnyH_take (i:=10) (v:=.string (D++⟨#[UInt8.ofNat y]⟩)) rfl (by kernel_rfl) (by kernel_rfl) (by kernel_rfl) (fun _ _ _ h=>h) (Or.inl ⟨by rfl,fun W hSw=>by go_simp⟩) hS ?_
    refine wpAnyH_done (by kernel_rfl) ?_ _
    go_wp2
    go_ret
    exact ⟨by rw [unhide HRes]; rfl,unhide HA⟩
   ·
    go_simp
    have HA:Hid (Below w.heap.size w (w.alloc (.cells #[.int .u8 (y:Int)] 5)).drew):=((Below.refl w.heap.size w).alloc (Nat.le_refl _) _).drew
    have HO:Hid (BOwn (w.alloc (.cells #[.int .u8 (y:Int)] 5)).drew w.heap.size (.slice (some ⟨w.heap.size,0,none⟩) 1 1) [UInt8.ofNat y]):=(one_text w w.heap.size y (Nat.le_refl _) hyN).later (Below.refl _ _).drew (Nat.le_refl _)
    obtain ⟨WA,hWA⟩:∃ x,(w.alloc (.cells #[.int .u8 (y:Int)] 5)).drew=x:=⟨_,rfl⟩
    rw [hWA] at HA HO
    rw [hWA]
    refine Shut.out hK _ _ (unhide HA) (fun _=>?_)
    clear hK K hWA
    refine wpAnyH_weaken (S':=fun W=>Below w.heap.size w W∧BOwn W w.heap.size (.slice (some ⟨w.heap.size,0,none⟩) 1 1) [UInt8.ofNat y]) (fun _ h=>h.1) _ _ _ _ ?_
    have hS:Below w.heap.size w WA∧BOwn WA w.heap.size (.slice (some ⟨w.heap.size,0,none⟩) 1 1) [UInt8.ofNat y]:=⟨unhide HA,unhide HO⟩
    refine wpAnyH_take (i:=8) (v:=.string ⟨#[UInt8.ofNat y]⟩) rfl (by kernel_rfl) (by kernel_rfl) (by kernel_rfl) (fun _ _ _ h=>h) (Or.inl ⟨by rfl,fun W hSw=>by have hcv:=hSw.2.text; go_simp⟩) hS ?_
    refine wpAnyH_ready (rs:=[2]) (by kernel_rfl) (by simp) ?_
    refine AllReadyH.cons rfl (fun K hK=>?_) AllReadyH.nil
    go_simp
    go_at_call 24
    refine (unhide C _).mono ?_
    rintro e x1 ⟨rfl,Bd⟩
    have HB1:=hide (bnext (unhide HA) Bd)
    refine Shut.out hK _ _ ⟨unhide HB1,(unhide HO).later Bd (Nat.le_refl _)⟩ (fun hS=>?_)
    clear hK K Bd
    refine wpAnyH_take (i:=9) (v:=.string (D++⟨#[UInt8.ofNat y]⟩)) rfl (by kernel_rfl) (by kernel_rfl) (by kernel_rfl) (fun _ _ _ h=>h) (Or.inl ⟨by rfl,fun W hSw=>by go_simp⟩) hS ?_
    refine wpAnyH_take (i:=10) (v:=.string (D++⟨#[UInt8.ofNat y]⟩)) rfl (by kernel_rfl) (by kernel_rfl) (by kernel_rfl) (fun _ _ _ h=>h) (Or.inl ⟨by rfl,fun W hSw=>by go_simp⟩) hS ?_
    refine wpAnyH_done (by kernel_rfl) ?_ _
    go_wp2
    go_ret
    exact ⟨by rw [unhide HRes]; rfl,unhide HB1⟩
set_option maxHeartbeats 1600000 in
theorem l9Log_any (x:ByteArray) (w:World) (hx:x.size≤1048576) :
  Calls Tryz.prog 14 #[.string x] w fun e w'=>e = .returned (.string (toldT x))∧Below w.heap.size w w':=by
 have C:=hide (l1Dec_any x.size (by omega) w)
 have HE:Hid (toldT x=⟨(decDigits x.size).toArray⟩++⟨#[10]⟩++x):=rfl
 have hz:=dec_size x.size (by omega)
 have hxI:(x.size:Int)≤1048576:=by omega
 obtain ⟨D,hD⟩:∃ D,(⟨(decDigits x.size).toArray⟩:ByteArray)=D:=⟨_,rfl⟩
 have hDz:D.size≤7:=by rw [←hD]; exact hz
 have hDI:(D.size:Int)≤7:=by omega
 have h1:¬ 9223372036854775807<D.size+(⟨#[10]⟩:ByteArray).size:=by show ¬ _<D.size+1; omega
 have h2:¬ 9223372036854775807<D.size+(⟨#[10]⟩:ByteArray).size+x.size:=by show ¬ _<D.size+1+_; omega
 rw [hD] at C HE
 clear hD hz hDz hx
 go_enter Tryz.func14,Tryz.ntmps14
 go_wp2_with fail
 refine (unhide C).mono ?_
 rintro e x1 ⟨rfl,hb1⟩
 have HB1:=hide hb1
 clear hb1 C
 go_wp2
 go_ret
 exact ⟨by rw [unhide HE]; rfl,unhide HB1⟩
theorem fig_step {l:List UInt8} {k:Nat} {b:UInt8} (h:l[k]?=some b):figV (l.take (k+1))=figV (l.take k)*10+(b.toNat-48):=by
 rw [List.take_add_one,h]; exact figV_snoc _ _
theorem num_few {l:List UInt8} {k:Nat} {b:UInt8} (h:l[k]?=some b) (hb:figB b=false):numF l = -1:=by
 unfold numF
 rw [if_neg]
 rintro ⟨⟨_,h2,_⟩,_⟩
 have:=h2 b (List.mem_of_getElem? h)
 rw [hb] at this
 cases this
theorem num_long {l:List UInt8} (h:6<l.length):numF l = -1:=by
 unfold numF; rw [if_neg (fun e=>by have:=e.2; omega)]
theorem num_none:numF [] = -1:=by unfold numF; rw [if_neg (fun e=>e.1.1 rfl)]
theorem num_zero {l:List UInt8} (h:1<l.length) (h0:l[0]?=some 48):numF l = -1:=by
 unfold numF
 rw [if_neg (fun e=>e.1.2.2 ⟨h,by rw [List.head?_eq_getElem?]; exact h0⟩)]
theorem num_yes {l:List UInt8} (h0:l≠[]) (ha:∀ b∈l,figB b=true) (hl:l.length≤6) (hn:¬ (1<l.length∧l[0]?=some 48)):numF l=(figV l:Int):=by
 unfold numF
 rw [if_pos ⟨⟨h0,ha,fun e=>hn ⟨e.1,by rw [←List.head?_eq_getElem?]; exact e.2⟩⟩,hl⟩]
theorem byte_at (s:ByteArray) (k:Nat) (hk:k<s.size):s.data.toList[k]?=some s[k]:=by
 have hk':k<s.data.toList.length:=by simpa using hk
 rw [List.getElem?_eq_getElem hk']; rfl
theorem fig_lt:∀ (k:Nat) (l:List UInt8),(∀ b∈l,figB b=true)→l.length=k→figV l<10 ^ k
 | 0,l,_,h=>by rw [List.eq_nil_of_length_eq_zero h]; decide
 | k+1,l,ha,h=>by
  obtain ⟨m,d,rfl⟩:∃ m d,l=m++[d]:=⟨l.dropLast,l.getLast (by intro e; rw [e] at h; cases h),(List.dropLast_concat_getLast _).symm⟩
  have ih:=fig_lt k m (fun b hb=>ha b (by simp [hb])) (by simpa using h)
  have hd:=ha d (by simp)
  simp only [figB,Bool.and_eq_true,decide_eq_true_eq] at hd
  rw [figV_snoc,Nat.pow_succ]
  omega
set_option maxHeartbeats 6400000 in
theorem l1Num_any (s:ByteArray) (w:World) (hs:s.size≤1048576) :
  Calls Tryz.prog 19 #[.string s] w fun e w'=>e = .returned (.int .i64 (numF s.data.toList))∧w'=w:=by
 have hsI:(s.size:Int)≤1048576:=by omega
 have hlen:s.data.toList.length=s.size:=by simp
 have HLn:=hide hlen
 clear hs hlen
 go_enter Tryz.func19,Tryz.ntmps19
 go_wp2_with fail
 go_loop [3,4] (fun n i=>∃ k:Nat,k≤s.size∧k≤6∧i = .int .i64 k∧n = .int .i64 (figV (s.data.toList.take k):Nat)∧∀ b∈s.data.toList.take k,figB b=true) (fun _ i=>s.size-(intOf i).toNat)
 case atStart=>exact ⟨0,Nat.zero_le _,Nat.zero_le _,rfl,rfl,fun b hb=>by simp at hb⟩
 case round=>
  obtain ⟨k,hk,hk6,rfl,rfl,hall⟩:=hrel
  have hkI:(k:Int)≤(s.size:Int):=by omega
  have hk6I:(k:Int)≤6:=by omega
  have HALL:=hide hall
  have hV:=fig_lt k (s.data.toList.take k) hall (by rw [List.length_take,unhide HLn]; omega)
  have hV6:figV (s.data.toList.take k)<1000000:=Nat.lt_of_lt_of_le hV (Nat.pow_le_pow_right (by decide) hk6:10 ^ k≤10 ^ 6)
  obtain ⟨V,hVe⟩:∃ V,figV (s.data.toList.take k)=V:=⟨_,rfl⟩
  rw [hVe] at hV6
  rw [hVe]
  have hVI:(V:Int)<1000000:=by omega
  have HVe:=hide hVe
  clear hall hV hV6 hVe
  by_cases hlt:k<s.size
  ·
   have hltI:(k:Int)<(s.size:Int):=by omega
   have HAt:=hide (byte_at s k hlt)
   by_cases hf:figB s[k]=true
   ·
    have hf2:=hf
    simp only [figB,Bool.and_eq_true,decide_eq_true_eq] at hf2
    have hfa:¬ (s[k].toNat:Int)<48:=by omega
    have hfb:¬ (57:Int)<(s[k].toNat:Int):=by omega
    by_cases h6:k=6
    ·
     have HN:=hide (num_long (l:=s.data.toList) (by rw [unhide HLn]; omega))
     have hge:(6:Int)≤(k:Int):=by omega
     clear h6
     go_wp2
     go_ret
     exact ⟨by rw [unhide HN]; rfl,rfl⟩
    ·
     have hge:¬ (6:Int)≤(k:Int):=by omega
     have HSt:=hide (fig_step (unhide HAt))
     have HNX:Hid (∀ b∈s.data.toList.take (k+1),figB b=true):=by
      intro b hb
      rw [List.take_add_one,unhide HAt] at hb
      rcases List.mem_append.1 hb with hb | hb
      ·
       exact unhide HALL b hb
      ·
       simp at hb; rw [hb]; exact hf
     have hw8:IntKind.u8.wrap ((s[k].toNat:Int)-48)=(s[k].toNat:Int)-48:=by simp only [IntKind.wrap,IntKind.bits,IntKind.signed]; simp; omega
     have HCast:Hid (((figV (s.data.toList.take (k+1)):Nat):Int)=(V:Int)*10+((s[k].toNat:Int)-48)):=by show _=_; rw [unhide HSt,unhide HVe]; omega
     clear hf2 hf HSt
     go_wp2
     go_round
     case rel=>exact ⟨k+1,by omega,by omega,by go_num,by rw [unhide HCast],unhide HNX⟩
     case measure=>simp [intOf]; omega
   ·
    have hfF:figB s[k]=false:=by simpa using hf
    have HN:=hide (num_few (unhide HAt) hfF)
    simp only [figB,Bool.and_eq_true,decide_eq_true_eq] at hf
    by_cases h48:s[k].toNat<48
    ·
     have hfa:(s[k].toNat:Int)<48:=by omega
     go_wp2
     go_ret
     exact ⟨by rw [unhide HN]; rfl,rfl⟩
    ·
     have hfa:¬ (s[k].toNat:Int)<48:=by omega
     have hfb:(57:Int)<(s[k].toNat:Int):=by omega
     go_wp2
     go_ret
     exact ⟨by rw [unhide HN]; rfl,rfl⟩
  ·
   obtain rfl:k=s.size:=by omega
   have htk:s.data.toList.take s.size=s.data.toList:=List.take_of_length_le (by rw [unhide HLn]; exact Nat.le_refl _)
   rw [htk] at HALL HVe
   clear htk
   by_cases h0:s.size=0
   ·
    have hnil:s.data.toList=[]:=List.eq_nil_of_length_eq_zero (by rw [unhide HLn]; exact h0)
    have HN:Hid (numF s.data.toList = -1):=by show _=_; rw [hnil]; exact num_none
    have h0I:(s.size:Int)=0:=by omega
    clear hnil
    go_wp2
    go_ret
    exact ⟨by rw [unhide HN]; rfl,rfl⟩
   ·
    have h0I:¬ (s.size:Int)=0:=by omega
    have HAt:=hide (byte_at s 0 (by omega))
    by_cases h1:1<s.size
    ·
     have h1I:(1:Int)<(s.size:Int):=by omega
     by_cases hb:s[0].toNat=48
     ·
      have hbI:(s[0].toNat:Int)=48:=by omega
      have e48:s[0]=48:=UInt8.toNat_inj.1 hb
      have HN:=hide (num_zero (l:=s.data.toList) (by rw [unhide HLn]; exact h1) (by rw [unhide HAt,e48]))
      go_wp2
      go_ret
      exact ⟨by rw [unhide HN]; rfl,rfl⟩
     ·
      have hbI:¬ (s[0].toNat:Int)=48:=by omega
      have HN:Hid (numF s.data.toList=(V:Int)):=((num_yes (l:=s.data.toList) (fun e=>h0 (by rw [←unhide HLn,e]; rfl)) (unhide HALL) (by rw [unhide HLn]; omega) (fun e=>hb (by have:=e.2; rw [unhide HAt,Option.some.injEq] at this; rw [this]; rfl))).trans (by rw [unhide HVe]))
      have bq:((s[0].toNat:Int) == 48)=false:=beq_eq_false_iff_ne.2 hbI
      have bz:((s.size:Int) == 0)=false:=beq_eq_false_iff_ne.2 h0I
      clear hkI hlt hb HALL HVe HAt HLn hVI
      go_wp2
      go_ret
      exact ⟨by rw [unhide HN]; rfl,rfl⟩
    ·
     have h1I:¬ (1:Int)<(s.size:Int):=by omega
     have HN:Hid (numF s.data.toList=(V:Int)):=((num_yes (l:=s.data.toList) (fun e=>h0 (by rw [←unhide HLn,e]; rfl)) (unhide HALL) (by rw [unhide HLn]; omega) (fun e=>h1 (by rw [←unhide HLn]; exact e.1))).trans (by rw [unhide HVe]))
     clear hkI hlt HALL HVe HAt HLn hVI
     go_wp2
     go_ret
     exact ⟨by rw [unhide HN]; rfl,rfl⟩
def cutNl (s:ByteArray):List ByteArray:=if 0≤Lib.indexByte s.data.toList 10 then [s.extract 0 (Lib.indexByte s.data.toList 10).toNat,nextT s (Lib.indexByte s.data.toList 10).toNat] else [s]
theorem cutNl_no {s:ByteArray} (h:Lib.indexByte s.data.toList 10 = -1):cutNl s=[s]:=by unfold cutNl; rw [h,if_neg (by decide)]
theorem cutNl_at {s:ByteArray} {i:Nat} (h:Lib.indexByte s.data.toList 10=(i:Int)):cutNl s=[s.extract 0 i,nextT s i]:=by unfold cutNl; rw [h,if_pos (by omega),Int.toNat_natCast]
theorem nl_cases (l:List UInt8):Lib.indexByte l 10 = -1∨∃ i:Nat,Lib.indexByte l 10=(i:Int):=by
 have:=Lib.indexByte_ge l 10
 by_cases h:Lib.indexByte l 10 = -1
 ·
  exact .inl h
 ·
  exact .inr ⟨(Lib.indexByte l 10).toNat,by omega⟩
def noNl (s:ByteArray) (k:Nat):Prop:=∀ j,j<k→s.data.toList[j]?≠some 10
theorem nl_here {s:ByteArray} {k:Nat} (h:noNl s k) (hk:s.data.toList[k]?=some 10):Lib.indexByte s.data.toList 10=(k:Int):=by
 rcases nl_cases s.data.toList with e | ⟨o,e⟩
 ·
  exact absurd hk (Lib.indexByte_none e k)
 ·
  obtain ⟨h1,h2⟩:=Lib.indexByte_some e
  rcases Nat.lt_trichotomy o k with hlt | rfl | hlt
  ·
   exact absurd h1 (h o hlt)
  ·
   exact e
  ·
   exact absurd hk (h2 k hlt)
theorem nl_none {s:ByteArray} (h:noNl s s.size):Lib.indexByte s.data.toList 10 = -1:=by
 rcases nl_cases s.data.toList with e | ⟨o,e⟩
 ·
  exact e
 ·
  have h1:=(Lib.indexByte_some e).1
  have ho:o<s.size:=by
   have:=(List.getElem?_eq_some_iff.1 h1).1
   simpa using this
  exact absurd h1 (h o ho)
set_option maxHeartbeats 6400000 in
theorem l1CutN_any (s:ByteArray) (w:World) (hs:s.size≤1048576) :
  Calls Tryz.prog 18 #[.string s,.int .u8 10,.int .i64 1] w fun e w'=>∃ v,e = .returned v∧SOwn w' w.heap.size v (cutNl s)∧Below w.heap.size w w':=by
 obtain ⟨i0,hi,hz0,hz1,hz2⟩:=info_parts Tryz.infoStr
 have hsI:(s.size:Int)≤1048576:=by omega
 have hq0:=hide (SOwn.lit w w.heap.size (Nat.le_refl _))
 have hb0:Hid (Below w.heap.size w (w.alloc (.cells #[] 9))):=(Below.refl _ _).alloc (Nat.le_refl _) _
 have bd:Hid ((1≤maxLen∧1*16≤140737488355328)∧(2≤maxLen∧2*16≤140737488355328)):=by show (_∧_)∧(_∧_); unfold maxLen; omega
 clear hs
 go_enter Tryz.func18,Tryz.ntmps18
 go_wp2_with fail
 go_loopw [7,8,9] (fun v fr i wr=>∃ (k f:Nat) (P:List ByteArray),k≤s.size∧i = .int .i64 k∧fr = .int .i64 f∧SOwn wr w.heap.size v P∧Below w.heap.size w wr∧((P=[]∧f=0∧noNl s k)∨(∃ p:Nat,Lib.indexByte s.data.toList 10=(p:Int)∧P=[s.extract 0 p]∧f=p+1∧k=p+1))) (fun _ _ i _=>s.size-(intOf i).toNat)
 case atStart=>exact ⟨0,0,[],Nat.zero_le _,rfl,rfl,unhide hq0,unhide hb0,.inl ⟨rfl,rfl,fun j hj=>absurd hj (by omega)⟩⟩
 case round=>
  obtain ⟨k,f,P,hk,rfl,rfl,hq,hbel,hph⟩:=hrel
  have hkI:(k:Int)≤(s.size:Int):=by omega
  have hbs:=hbel.size
  have HBel:=hide hbel
  rcases hph with ⟨rfl,rfl,hno⟩ | ⟨p,hp,rfl,rfl,rfl⟩
  ·
   obtain ⟨va,vc,rfl⟩:=hq.formN (n:=0) rfl
   have hqo:=hide (hq.own (n:=0) rfl)
   have HNo:=hide hno
   clear hq hbel hno
   by_cases hlt:k<s.size
   ·
    have hltI:(k:Int)<(s.size:Int):=by omega
    have HAt:=hide (byte_at s k hlt)
    by_cases hb:s[k].toNat=10
    ·
     have hbI:(s[k].toNat:Int)=10:=by omega
     have e10:s[k]=10:=UInt8.toNat_inj.1 hb
     have HP:=hide (nl_here (unhide HNo) (by rw [unhide HAt,e10]))
     go_wp2_with (at_builtin; refine wpList_append_own _ rfl _ _ 39 rfl w.heap.size 9 i0 (.string ByteArray.empty) 1 16 Tryz.underlying39 hi hz0 hz1 hz2 rfl (by decide) _ _ _ rfl (World.ownsRow.alloc (unhide hqo) _) ⟨wr.heap.size,0,none⟩ 1 1 [.string (s.extract 0 k)] rfl rfl (one_new _ _ rfl _ _) (one_str _) (unhide bd).1.1 (unhide bd).1.2 (size_alloc_le hbs _) ?_; intro v' x2 hown hgrow hnil; clear hnil)
     have hb2:=grown_step (v:=.slice va 0 vc) hgrow (unhide hqo) (Nat.le_refl _) hbs (unhide HBel)
     have hq2:=hide (sown_snoc (l:=[]) (b:=s.extract 0 k) rfl hown)
     have HB2:=hide hb2
     clear hown hgrow hb2
     go_wp2
     go_roundw
     case rel=>exact ⟨k+1,k+1,[s.extract 0 k],by omega,by go_num,by go_num,unhide hq2,unhide HB2,.inr ⟨k,unhide HP,rfl,rfl,rfl⟩⟩
     case measure=>simp [intOf]; omega
    ·
     have hbI:¬ (s[k].toNat:Int)=10:=by omega
     have HNX:Hid (noNl s (k+1)):=by
      intro j hj e
      by_cases hjk:j=k
      ·
       subst hjk
       rw [unhide HAt,Option.some.injEq] at e
       exact hb (by rw [e]; rfl)
      ·
       exact unhide HNo j (by omega) e
     have HQ:Hid (SOwn wr w.heap.size (.slice va 0 vc) []):=unhide hqo
     go_wp2
     go_roundw
     case rel=>exact ⟨k+1,0,[],by omega,by go_num,rfl,unhide HQ,unhide HBel,.inl ⟨rfl,rfl,unhide HNX⟩⟩
     case measure=>simp [intOf]; omega
   ·
    obtain rfl:k=s.size:=by omega
    have HC:=hide (cutNl_no (nl_none (unhide HNo)))
    go_wp2_with (at_builtin; refine wpList_append_own _ rfl _ _ 39 rfl w.heap.size 9 i0 (.string ByteArray.empty) 1 16 Tryz.underlying39 hi hz0 hz1 hz2 rfl (by decide) _ _ _ rfl (World.ownsRow.alloc (unhide hqo) _) ⟨wr.heap.size,0,none⟩ 1 1 [.string s] rfl rfl (one_new _ _ rfl _ _) (one_str _) (unhide bd).1.1 (unhide bd).1.2 (size_alloc_le hbs _) ?_; intro v' x2 hown hgrow hnil; clear hnil)
    have hb2:=grown_step (v:=.slice va 0 vc) hgrow (unhide hqo) (Nat.le_refl _) hbs (unhide HBel)
    have hq2:=hide (sown_snoc (l:=[]) (b:=s) rfl hown)
    have HB2:=hide hb2
    clear hown hgrow hb2
    go_wp2
    go_ret
    exact ⟨_,rfl,by rw [unhide HC]; exact unhide hq2,unhide HB2⟩
  ·
   obtain ⟨va,vc,rfl⟩:=hq.formN (n:=1) rfl
   have hqo:=hide (hq.own (n:=1) rfl)
   have HC:=hide (cutNl_at hp)
   have HX:Hid (nextT s p=s.extract (p+1) s.size):=rfl
   rw [unhide HX] at HC
   clear hq hbel hp
   by_cases hlt:p+1<s.size
   ·
    have hltI:(p:Int)+1<(s.size:Int):=by omega
    go_wp2_with (at_builtin; refine wpList_append_own _ rfl _ _ 39 rfl w.heap.size 9 i0 (.string ByteArray.empty) 1 16 Tryz.underlying39 hi hz0 hz1 hz2 rfl (by decide) _ _ _ rfl (World.ownsRow.alloc (unhide hqo) _) ⟨wr.heap.size,0,none⟩ 1 1 [.string (s.extract (p+1) s.size)] rfl rfl (one_new _ _ rfl _ _) (one_str _) (unhide bd).2.1 (unhide bd).2.2 (size_alloc_le hbs _) ?_; intro v' x2 hown hgrow hnil; clear hnil)
    have hb2:=grown_step (v:=.slice va 1 vc) hgrow (unhide hqo) (Nat.le_refl _) hbs (unhide HBel)
    have hq2:=hide (sown_snoc (l:=[s.extract 0 p]) (b:=s.extract (p+1) s.size) rfl hown)
    have HB2:=hide hb2
    clear hown hgrow hb2
    go_wp2
    go_ret
    exact ⟨_,rfl,by rw [unhide HC]; exact unhide hq2,unhide HB2⟩
   ·
    have hltI:¬ (p:Int)+1<(s.size:Int):=by omega
    go_wp2_with (at_builtin; refine wpList_append_own _ rfl _ _ 39 rfl w.heap.size 9 i0 (.string ByteArray.empty) 1 16 Tryz.underlying39 hi hz0 hz1 hz2 rfl (by decide) _ _ _ rfl (World.ownsRow.alloc (unhide hqo) _) ⟨wr.heap.size,0,none⟩ 1 1 [.string (s.extract (p+1) s.size)] rfl rfl (one_new _ _ rfl _ _) (one_str _) (unhide bd).2.1 (unhide bd).2.2 (size_alloc_le hbs _) ?_; intro v' x2 hown hgrow hnil; clear hnil)
    have hb2:=grown_step (v:=.slice va 1 vc) hgrow (unhide hqo) (Nat.le_refl _) hbs (unhide HBel)
    have hq2:=hide (sown_snoc (l:=[s.extract 0 p]) (b:=s.extract (p+1) s.size) rfl hown)
    have HB2:=hide hb2
    clear hown hgrow hb2
    go_wp2
    go_ret
    exact ⟨_,rfl,by rw [unhide HC]; exact unhide hq2,unhide HB2⟩
def clN (b:Int) (z:Nat):Nat:=if b<0 then 0 else if (z:Int)<b then z else b.toNat
def dskV (a b:ByteArray):Value:=.agg #[.string a,.string b]
def tearV (t l x:ByteArray) (b:Int):Value:=if ((zipG t).isSome&&decide (l=⟨#[]⟩))=true∧(zipG x).isSome=true then dskV t ((toldT x).extract 0 (clN b (toldT x).size)) else dskV ⟨#[]⟩ ⟨#[]⟩
def riseV (t l:ByteArray):Value:=match riseO l with
 | some x=>.tuple #[dskV x ⟨#[]⟩,.bool true]
 | none=>if (zipG t).isSome=true then .tuple #[dskV t ⟨#[]⟩,.bool true] else .tuple #[dskV ⟨#[]⟩ ⟨#[]⟩,.bool false]
theorem two_blk (w:World) (ps cs:Array Value) (T1 T2:TypeId):Below w.heap.size w ((w.alloc (.cells ps T1)).alloc (.cells cs T2))∧Blk ((w.alloc (.cells ps T1)).alloc (.cells cs T2)) w.heap.size ps.toList∧Blk ((w.alloc (.cells ps T1)).alloc (.cells cs T2)) (w.heap.size+1) cs.toList:=by
 have e:(w.alloc (.cells ps T1)).heap.size=w.heap.size+1:=by simp
 have h1:=blk_alloc w ps T1
 have h2:=blk_alloc (w.alloc (.cells ps T1)) cs T2
 rw [e] at h2
 exact ⟨((Below.refl _ _).alloc (Nat.le_refl _) _).alloc (by rw [e]; omega) _,h1.later ((Below.refl _ _).alloc (Nat.le_refl _) _) h1.1,h2⟩
def DkS (w W:World) (ps rs:List Value):Prop:=Below w.heap.size w W∧Blk W w.heap.size ps∧Blk W (w.heap.size+1) rs
theorem DkS.later {w W W':World} {ps rs:List Value} (h:DkS w W ps rs) (hb:Below W.heap.size W W'):DkS w W' ps rs:=⟨bnext h.1 hb,h.2.1.later hb h.2.1.1,h.2.2.later hb h.2.2.1⟩
theorem DkS.drew {w W:World} {ps rs:List Value} (h:DkS w W ps rs):DkS w W.drew ps rs:=⟨h.1.drew,h.2.1.drew,h.2.2.drew⟩
theorem DkS.put {w W:World} {ps:List Value} {a b:ByteArray} {u v:Value} (h:DkS w W ps [u,v]):DkS w ((W.setCell ⟨w.heap.size+1,0,none⟩ (.string a)).setCell ⟨w.heap.size+1,1,none⟩ (.string b)) ps [.string a,.string b]:=
 ⟨below_set (below_set h.1 (by omega) _) (by omega) _,(h.2.1.set_other _ (by omega)).set_other _ (by omega),(h.2.2.set 0 (.string a)).set 1 (.string b)⟩
theorem DkS.put3 {w W:World} {ps:List Value} {a b c:ByteArray} {u v x:Value} (h:DkS w W ps [u,v,x]):DkS w (((W.setCell ⟨w.heap.size+1,0,none⟩ (.string a)).setCell ⟨w.heap.size+1,1,none⟩ (.string b)).setCell ⟨w.heap.size+1,2,none⟩ (.string c)) ps [.string a,.string b,.string c]:=
 ⟨below_set (below_set (below_set h.1 (by omega) _) (by omega) _) (by omega) _,((h.2.1.set_other _ (by omega)).set_other _ (by omega)).set_other _ (by omega),((h.2.2.set 0 (.string a)).set 1 (.string b)).set 2 (.string c)⟩
set_option maxHeartbeats 6400000 in
theorem specDiskTear_any (t l x:ByteArray) (b:Int) (w:World) (ht:t.size≤1048576) (hx:x.size≤1048576) :
  Calls Tryz.prog 6 #[dskV t l,.string x,.int .i64 b] w fun e w'=>e = .returned (tearV t l x b)∧Below w.heap.size w w':=by
 have hmix:Tryz.prog.follows .mixedOrders=true:=by kernel_rfl
 have T0:Hid (DkS w _ [.string t,.string l] _):=two_blk w #[.string t,.string l] #[.string ⟨#[]⟩,.string ⟨#[]⟩] 25 25
 have C1:=hide (fun W=>specDiskOk_any t l W ht)
 have C2:=hide (fun W=>l9Zip_any x W hx)
 have C3:=hide (fun W=>l9Log_any x W hx)
 have hz:(toldT x).size≤1048600:=by
  have:=dec_size x.size (by omega)
  have e:(toldT x).size=(decDigits x.size).length+1+x.size:=by
   unfold toldT; rw [ByteArray.size_append,ByteArray.size_append]; rfl
  omega
 have hzI:((toldT x).size:Int)≤1048600:=by omega
 have HV:Hid (tearV t l x b=if ((zipG t).isSome&&decide (l=⟨#[]⟩))=true∧(zipG x).isSome=true then dskV t ((toldT x).extract 0 (clN b (toldT x).size)) else dskV ⟨#[]⟩ ⟨#[]⟩):=rfl
 generalize ((zipG t).isSome&&decide (l=⟨#[]⟩))=B1 at *
 generalize (zipG x).isSome=B2 at *
 generalize toldT x=Z at *
 unfold dskV
 clear ht hx hz
 go_enter Tryz.func6,Tryz.ntmps6
 go_wp2_with fail
 refine (unhide C1 _).mono ?_
 rintro e x1 ⟨rfl,hb1⟩
 have T1:=hide ((unhide T0).later hb1)
 clear hb1 T0 C1
 cases B1
 ·
  have HV2:Hid (tearV t l x b = .agg #[.string ⟨#[]⟩,.string ⟨#[]⟩]):=by show _=_; rw [unhide HV]; rfl
  have b0:=(unhide T1).2.2.cell 0 _ rfl
  have g0:=(unhide T1).2.2.free 0 (by decide)
  have b1:=(unhide T1).2.2.cell 1 _ rfl
  have g1:=(unhide T1).2.2.free 1 (by decide)
  have TZ:=hide ((unhide T1).put (a:=⟨#[]⟩) (b:=⟨#[]⟩))
  go_wp2
  have z0:=(unhide TZ).2.2.cell 0 _ rfl
  have z1:=(unhide TZ).2.2.cell 1 _ rfl
  exact bodyPost_ret (v:=.agg #[.string ⟨#[]⟩,.string ⟨#[]⟩]) (by simp [results,Tryz.results6,go_sem,z0,z1]) rfl ⟨by rw [unhide HV2],(unhide TZ).1⟩
 ·
  go_wp2_with fail
  refine (unhide C2 _).mono ?_
  rintro e x2 ⟨rfl,hb2⟩
  have T2:=hide ((unhide T1).later hb2)
  clear hb2 T1 C2
  cases B2
  ·
   have HV2:Hid (tearV t l x b = .agg #[.string ⟨#[]⟩,.string ⟨#[]⟩]):=by show _=_; rw [unhide HV]; rfl
   have b0:=(unhide T2).2.2.cell 0 _ rfl
   have g0:=(unhide T2).2.2.free 0 (by decide)
   have b1:=(unhide T2).2.2.cell 1 _ rfl
   have g1:=(unhide T2).2.2.free 1 (by decide)
   have TZ:=hide ((unhide T2).put (a:=⟨#[]⟩) (b:=⟨#[]⟩))
   go_wp2
   have z0:=(unhide TZ).2.2.cell 0 _ rfl
   have z1:=(unhide TZ).2.2.cell 1 _ rfl
   exact bodyPost_ret (v:=.agg #[.string ⟨#[]⟩,.string ⟨#[]⟩]) (by simp [results,Tryz.results6,go_sem,z0,z1]) rfl ⟨by rw [unhide HV2],(unhide TZ).1⟩
  ·
   have HV2:Hid (tearV t l x b = .agg #[.string t,.string (Z.extract 0 (clN b Z.size))]):=by show _=_; rw [unhide HV]; rfl
   go_wp2_with fail
   refine (unhide C3 _).mono ?_
   rintro e x3 ⟨rfl,hb3⟩
   have T3:=hide ((unhide T2).later hb3)
   clear hb3 T2 C3 HV
   obtain ⟨N,hN⟩:∃ N,clN b Z.size=N:=⟨_,rfl⟩
   have HN:=hide hN
   by_cases h1:b<0
   ·
    have e0:N=0:=by rw [←hN]; unfold clN; rw [if_pos h1]
    rw [unhide HN,e0,show Z.extract 0 0=ByteArray.empty by simp] at HV2
    clear hN HN e0
    go_wp2_with fail
    refine wp_region_held_drew (S:=fun W=>Blk W w.heap.size [.string t,.string l]) hmix (unhide T3).2.1.drew (fun hS=>?_)
    refine wpAnyH_take (i:=0) (v:=.pointer (some ⟨w.heap.size,0,none⟩)) rfl (by kernel_rfl) (by kernel_rfl) (by kernel_rfl) (fun _ _ _ h=>h) (Or.inl ⟨by rfl,fun W hSw=>by go_simp⟩) hS ?_
    refine wpAnyH_take (i:=1) (v:=.string t) rfl (by kernel_rfl) (by kernel_rfl) (by kernel_rfl) (fun _ _ _ h=>h) (Or.inl ⟨by rfl,fun W hSw=>by have s0:=hSw.cell 0 _ rfl; go_simp⟩) hS ?_
    refine wpAnyH_take (i:=2) (v:=.string Z) rfl (by kernel_rfl) (by kernel_rfl) (by kernel_rfl) (fun _ _ _ h=>h) (Or.inl ⟨by rfl,fun W hSw=>by go_simp⟩) hS ?_
    refine wpAnyH_take (i:=3) (v:=.int .i64 0) rfl (by kernel_rfl) (by kernel_rfl) (by kernel_rfl) (fun _ _ _ h=>h) (Or.inl ⟨by rfl,fun W hSw=>by go_simp⟩) hS ?_
    refine wpAnyH_take (i:=4) (v:=.string ByteArray.empty) rfl (by kernel_rfl) (by kernel_rfl) (by kernel_rfl) (fun _ _ _ h=>h) (Or.inl ⟨by rfl,fun W hSw=>by go_simp⟩) hS ?_
    refine wpAnyH_take (i:=5) (v:=.agg #[.string t,.string ByteArray.empty]) rfl (by kernel_rfl) (by kernel_rfl) (by kernel_rfl) (fun _ _ _ h=>h) (Or.inl ⟨by rfl,fun W hSw=>by go_simp⟩) hS ?_
    refine wpAnyH_ready (rs:=[6]) (by kernel_rfl) (by simp) ?_
    refine AllReadyH.cons rfl (fun K hK=>?_) AllReadyH.nil
    have T4:=hide (unhide T3).drew
    generalize x3.drew=x4 at *
    have b0:=(unhide T4).2.2.cell 0 _ rfl
    have g0:=(unhide T4).2.2.free 0 (by decide)
    have b1:=(unhide T4).2.2.cell 1 _ rfl
    have g1:=(unhide T4).2.2.free 1 (by decide)
    have TZ:=hide ((unhide T4).put (a:=t) (b:=ByteArray.empty))
    go_simp
    refine Shut.out hK _ _ (unhide TZ).2.1 (fun hS=>?_)
    clear hK K b0 g0 b1 g1
    refine wpAnyH_done (by kernel_rfl) ?_ _
    go_wp2
    have z0:=(unhide TZ).2.2.cell 0 _ rfl
    have z1:=(unhide TZ).2.2.cell 1 _ rfl
    exact bodyPost_ret (v:=.agg #[.string t,.string ByteArray.empty]) (by simp [results,Tryz.results6,go_sem,z0,z1]) rfl ⟨by rw [unhide HV2],(unhide TZ).1⟩
   ·
    by_cases h2:(Z.size:Int)<b
    ·
     have e0:N=Z.size:=by rw [←hN]; unfold clN; rw [if_neg h1,if_pos h2]
     rw [unhide HN,e0,show Z.extract 0 Z.size=Z by simp] at HV2
     clear hN HN e0
     go_wp2_with fail
     refine wp_region_held_drew (S:=fun W=>Blk W w.heap.size [.string t,.string l]) hmix (unhide T3).2.1.drew (fun hS=>?_)
     refine wpAnyH_take (i:=0) (v:=.pointer (some ⟨w.heap.size,0,none⟩)) rfl (by kernel_rfl) (by kernel_rfl) (by kernel_rfl) (fun _ _ _ h=>h) (Or.inl ⟨by rfl,fun W hSw=>by go_simp⟩) hS ?_
     refine wpAnyH_take (i:=1) (v:=.string t) rfl (by kernel_rfl) (by kernel_rfl) (by kernel_rfl) (fun _ _ _ h=>h) (Or.inl ⟨by rfl,fun W hSw=>by have s0:=hSw.cell 0 _ rfl; go_simp⟩) hS ?_
     refine wpAnyH_take (i:=2) (v:=.string Z) rfl (by kernel_rfl) (by kernel_rfl) (by kernel_rfl) (fun _ _ _ h=>h) (Or.inl ⟨by rfl,fun W hSw=>by go_simp⟩) hS ?_
     refine wpAnyH_take (i:=3) (v:=.int .i64 (Z.size:Nat)) rfl (by kernel_rfl) (by kernel_rfl) (by kernel_rfl) (fun _ _ _ h=>h) (Or.inl ⟨by rfl,fun W hSw=>by go_simp⟩) hS ?_
     refine wpAnyH_take (i:=4) (v:=.string Z) rfl (by kernel_rfl) (by kernel_rfl) (by kernel_rfl) (fun _ _ _ h=>h) (Or.inl ⟨by rfl,fun W hSw=>by go_simp⟩) hS ?_
     refine wpAnyH_take (i:=5) (v:=.agg #[.string t,.string Z]) rfl (by kernel_rfl) (by kernel_rfl) (by kernel_rfl) (fun _ _ _ h=>h) (Or.inl ⟨by rfl,fun W hSw=>by go_simp⟩) hS ?_
     refine wpAnyH_ready (rs:=[6]) (by kernel_rfl) (by simp) ?_
     refine AllReadyH.cons rfl (fun K hK=>?_) AllReadyH.nil
     have T4:=hide (unhide T3).drew
     generalize x3.drew=x4 at *
     have b0:=(unhide T4).2.2.cell 0 _ rfl
     have g0:=(unhide T4).2.2.free 0 (by decide)
     have b1:=(unhide T4).2.2.cell 1 _ rfl
     have g1:=(unhide T4).2.2.free 1 (by decide)
     have TZ:=hide ((unhide T4).put (a:=t) (b:=Z))
     go_simp
     refine Shut.out hK _ _ (unhide TZ).2.1 (fun hS=>?_)
     clear hK K b0 g0 b1 g1
     refine wpAnyH_done (by kernel_rfl) ?_ _
     go_wp2
     have z0:=(unhide TZ).2.2.cell 0 _ rfl
     have z1:=(unhide TZ).2.2.cell 1 _ rfl
     exact bodyPost_ret (v:=.agg #[.string t,.string Z]) (by simp [results,Tryz.results6,go_sem,z0,z1]) rfl ⟨by rw [unhide HV2],(unhide TZ).1⟩
    ·
     have e0:N=b.toNat:=by rw [←hN]; unfold clN; rw [if_neg h1,if_neg h2]
     rw [unhide HN,e0] at HV2
     have h3:0≤b:=by omega
     have h4:b≤(Z.size:Int):=by omega
     clear hN HN e0
     go_wp2_with fail
     refine wp_region_held_drew (S:=fun W=>Blk W w.heap.size [.string t,.string l]) hmix (unhide T3).2.1.drew (fun hS=>?_)
     refine wpAnyH_take (i:=0) (v:=.pointer (some ⟨w.heap.size,0,none⟩)) rfl (by kernel_rfl) (by kernel_rfl) (by kernel_rfl) (fun _ _ _ h=>h) (Or.inl ⟨by rfl,fun W hSw=>by go_simp⟩) hS ?_
     refine wpAnyH_take (i:=1) (v:=.string t) rfl (by kernel_rfl) (by kernel_rfl) (by kernel_rfl) (fun _ _ _ h=>h) (Or.inl ⟨by rfl,fun W hSw=>by have s0:=hSw.cell 0 _ rfl; go_simp⟩) hS ?_
     refine wpAnyH_take (i:=2) (v:=.string Z) rfl (by kernel_rfl) (by kernel_rfl) (by kernel_rfl) (fun _ _ _ h=>h) (Or.inl ⟨by rfl,fun W hSw=>by go_simp⟩) hS ?_
     refine wpAnyH_take (i:=3) (v:=.int .i64 b) rfl (by kernel_rfl) (by kernel_rfl) (by kernel_rfl) (fun _ _ _ h=>h) (Or.inl ⟨by rfl,fun W hSw=>by go_simp⟩) hS ?_
     refine wpAnyH_take (i:=4) (v:=.string (Z.extract 0 b.toNat)) rfl (by kernel_rfl) (by kernel_rfl) (by kernel_rfl) (fun _ _ _ h=>h) (Or.inl ⟨by rfl,fun W hSw=>by go_simp⟩) hS ?_
     refine wpAnyH_take (i:=5) (v:=.agg #[.string t,.string (Z.extract 0 b.toNat)]) rfl (by kernel_rfl) (by kernel_rfl) (by kernel_rfl) (fun _ _ _ h=>h) (Or.inl ⟨by rfl,fun W hSw=>by go_simp⟩) hS ?_
     refine wpAnyH_ready (rs:=[6]) (by kernel_rfl) (by simp) ?_
     refine AllReadyH.cons rfl (fun K hK=>?_) AllReadyH.nil
     have T4:=hide (unhide T3).drew
     generalize x3.drew=x4 at *
     have b0:=(unhide T4).2.2.cell 0 _ rfl
     have g0:=(unhide T4).2.2.free 0 (by decide)
     have b1:=(unhide T4).2.2.cell 1 _ rfl
     have g1:=(unhide T4).2.2.free 1 (by decide)
     have TZ:=hide ((unhide T4).put (a:=t) (b:=Z.extract 0 b.toNat))
     go_simp
     refine Shut.out hK _ _ (unhide TZ).2.1 (fun hS=>?_)
     clear hK K b0 g0 b1 g1
     refine wpAnyH_done (by kernel_rfl) ?_ _
     go_wp2
     have z0:=(unhide TZ).2.2.cell 0 _ rfl
     have z1:=(unhide TZ).2.2.cell 1 _ rfl
     exact bodyPost_ret (v:=.agg #[.string t,.string (Z.extract 0 b.toNat)]) (by simp [results,Tryz.results6,go_sem,z0,z1]) rfl ⟨by rw [unhide HV2],(unhide TZ).1⟩
set_option maxHeartbeats 12800000 in
theorem specDiskRise_any (t l:ByteArray) (w:World) (ht:t.size≤1048576) (hl:l.size≤1048576) :
  Calls Tryz.prog 10 #[dskV t l] w fun e w'=>e = .returned (riseV t l)∧Below w.heap.size w w':=by
 have hmix:Tryz.prog.follows .mixedOrders=true:=by kernel_rfl
 have T0:Hid (DkS w _ [.string t,.string l] _):=two_blk w #[.string t,.string l] #[.string ⟨#[]⟩,.string ⟨#[]⟩] 25 25
 have C1:=hide (fun W=>l1CutN_any l W hl)
 have C4:=hide (fun W=>l9Zip_any t W ht)
 have HS:Hid (∀ x,riseO l=some x→riseV t l = .tuple #[dskV x ⟨#[]⟩,.bool true]):=fun x h=>by unfold riseV; rw [h]
 have HW:Hid (riseO l=none→riseV t l=if (zipG t).isSome=true then .tuple #[dskV t ⟨#[]⟩,.bool true] else .tuple #[dskV ⟨#[]⟩ ⟨#[]⟩,.bool false]):=fun h=>by unfold riseV; rw [h]
 generalize (zipG t).isSome=B4 at *
 unfold dskV at HS HW ⊢
 rcases nl_cases l.data.toList with hnl | ⟨i,hnl⟩
 ·
  have HNone:=hide (rise_no hnl)
  rw [cutNl_no hnl] at C1
  clear ht hl hnl HS
  go_enter Tryz.func10,Tryz.ntmps10
  go_wp2_with fail
  refine (unhide C1 _).mono ?_
  rintro e x1 ⟨v,rfl,hq,hb1⟩
  have T1:=hide ((unhide T0).later hb1)
  obtain ⟨a,c,rfl⟩:=hq.formN (n:=1) rfl
  clear hb1 T0 C1 hq
  go_wp2_with fail
  refine wp_region_quiet_below hmix (by kernel_rfl) ?_
  repeat (go_big_quiet_step (fail))
  refine wpQuiet_nil ?_
  intro zw hw'
  obtain ⟨⟨dq,osq⟩,hw2⟩:=hw'
  have HZ:=below_regrown x1 dq osq
  rw [←hw2] at HZ
  have T2:=hide ((unhide T1).later HZ)
  clear hw2 HZ T1
  have p0:=(unhide T2).2.1.cell 0 _ rfl
  go_wp2_with fail
  refine (unhide C4 _).mono ?_
  rintro e x9 ⟨rfl,hb9⟩
  have T9:=hide ((unhide T2).later hb9)
  clear hb9 p0
  cases B4
  ·
   have HW2:=hide (unhide HW (unhide HNone))
   have b0:=(unhide T9).2.2.cell 0 _ rfl
   have g0:=(unhide T9).2.2.free 0 (by decide)
   have b1:=(unhide T9).2.2.cell 1 _ rfl
   have g1:=(unhide T9).2.2.free 1 (by decide)
   have TZ:=hide ((unhide T9).put (a:=⟨#[]⟩) (b:=⟨#[]⟩))
   go_wp2
   have z0:=(unhide TZ).2.2.cell 0 _ rfl
   have z1:=(unhide TZ).2.2.cell 1 _ rfl
   exact bodyPost_ret (v:=.tuple #[.agg #[.string ⟨#[]⟩,.string ⟨#[]⟩],.bool false]) (by simp [results,Tryz.results10,go_sem,z0,z1]) rfl ⟨by rw [unhide HW2]; rfl,(unhide TZ).1⟩
  ·
   have HW2:=hide (unhide HW (unhide HNone))
   have p0:=(unhide T9).2.1.cell 0 _ rfl
   have b0:=(unhide T9).2.2.cell 0 _ rfl
   have g0:=(unhide T9).2.2.free 0 (by decide)
   have b1:=(unhide T9).2.2.cell 1 _ rfl
   have g1:=(unhide T9).2.2.free 1 (by decide)
   have TZ:=hide ((unhide T9).put (a:=t) (b:=⟨#[]⟩))
   go_wp2
   have z0:=(unhide TZ).2.2.cell 0 _ rfl
   have z1:=(unhide TZ).2.2.cell 1 _ rfl
   exact bodyPost_ret (v:=.tuple #[.agg #[.string t,.string ⟨#[]⟩],.bool true]) (by simp [results,Tryz.results10,go_sem,z0,z1]) rfl ⟨by rw [unhide HW2]; rfl,(unhide TZ).1⟩
 ·
  have HNum:=hide (rise_num hnl)
  rw [cutNl_at hnl] at C1
  have hxs:(nextT l i).size≤1048576:=by unfold nextT; rw [ByteArray.size_extract]; omega
  have hes:(l.extract 0 i).size≤1048576:=by rw [ByteArray.size_extract]; omega
  have C2:Hid (∀ W,Calls Tryz.prog 19 #[.string (l.extract 0 i)] W fun e w'=>e = .returned (.int .i64 (numF (l.data.toList.take i)))∧Below W.heap.size W w'):=fun W=>by
   have e:(l.extract 0 i).data.toList=l.data.toList.take i:=by rw [ext_list]; simp
   have h:=l1Num_any (l.extract 0 i) W hes
   rw [e] at h
   exact h.mono (fun _ _ h=>⟨h.1,by rw [h.2]; exact Below.refl _ _⟩)
  have C3:=hide (fun W=>l9Zip_any (nextT l i) W hxs)
  have hxI:((nextT l i).size:Int)≤1048576:=by omega
  clear ht hl hnl hxs hes
  generalize numF (l.data.toList.take i)=NF at *
  generalize (zipG (nextT l i)).isSome=B3 at *
  generalize nextT l i=X at *
  generalize l.extract 0 i=Y at *
  obtain ⟨D,hD⟩:∃ D,decide (NF=(X.size:Int))=D:=⟨_,rfl⟩
  have HDD:=hide hD
  have hD2:(NF == (X.size:Int))=D:=by rw [←hD]; rfl
  go_enter Tryz.func10,Tryz.ntmps10
  go_wp2_with fail
  refine (unhide C1 _).mono ?_
  rintro e x1 ⟨v,rfl,hq,hb1⟩
  have T1:=hide ((unhide T0).later hb1)
  obtain ⟨a,c,rfl⟩:=hq.formN (n:=2) rfl
  obtain ⟨g,rfl,hg,hcc⟩:=SOwn.at (n:=2) rfl hq (by decide)
  have c0:=hcc 0 (by decide)
  have c1:=hcc 1 (by decide)
  simp only [List.getD,List.getElem?_cons_zero,List.getElem?_cons_succ,Option.getD_some] at c0 c1
  have k0:=cell_regrown c0
  have k1:=cell_regrown c1
  have q2:=fun d os=>Calls.regrown_of (w:=x1) (d:=d) (os:=os) (unhide C2 _)
  have q3:=fun d os=>Calls.regrown_of (w:=x1) (d:=d) (os:=os) (unhide C3 _)
  clear hb1 T0 C1 hq hcc
  go_wp2_with fail
  refine wp_region_quiet_below hmix (by kernel_rfl) ?_
  cases D
  ·
   have HNone:Hid (riseO l=none):=by show _=_; rw [unhide HNum,if_neg (fun e=>by have:=unhide HDD; rw [decide_eq_true e.1] at this; cases this)]
   clear HNum HS
   go_big_quiet_step (fail)
   go_big_quiet_step (fail)
   go_big_quiet_step (fail)
   go_big_quiet_step (fail)
   go_big_quiet_step (fail)
   go_big_quiet_step (fail)
   go_big_quiet_step (fail)
   go_big_quiet_step (exact q2 _ _)
   go_big_quiet_step (fail)
   go_big_quiet_step (fail)
   go_big_quiet_step (fail)
   go_big_quiet_step (fail)
   go_big_quiet_step (fail)
   go_big_quiet_step (fail)
   go_big_quiet_step (fail)
   go_big_quiet_step (fail)
   go_big_quiet_step (fail)
   go_big_quiet_step (fail)
   go_big_quiet_step (fail)
   go_big_quiet_step (fail)
   refine wpQuiet_nil ?_
   intro zw hw'
   obtain ⟨⟨dq,osq⟩,hw2⟩:=hw'
   have HZ:=below_regrown x1 dq osq
   rw [←hw2] at HZ
   have T2:=hide ((unhide T1).later HZ)
   clear hw2 HZ T1 q2 q3 k0 k1
   have p0:=(unhide T2).2.1.cell 0 _ rfl
   go_wp2_with fail
   refine (unhide C4 _).mono ?_
   rintro e x9 ⟨rfl,hb9⟩
   have T9:=hide ((unhide T2).later hb9)
   clear hb9 p0
   cases B4
   ·
    have HW2:=hide (unhide HW (unhide HNone))
    have b0:=(unhide T9).2.2.cell 0 _ rfl
    have g0:=(unhide T9).2.2.free 0 (by decide)
    have b1:=(unhide T9).2.2.cell 1 _ rfl
    have g1:=(unhide T9).2.2.free 1 (by decide)
    have TZ:=hide ((unhide T9).put (a:=⟨#[]⟩) (b:=⟨#[]⟩))
    go_wp2
    have z0:=(unhide TZ).2.2.cell 0 _ rfl
    have z1:=(unhide TZ).2.2.cell 1 _ rfl
    exact bodyPost_ret (v:=.tuple #[.agg #[.string ⟨#[]⟩,.string ⟨#[]⟩],.bool false]) (by simp [results,Tryz.results10,go_sem,z0,z1]) rfl ⟨by rw [unhide HW2]; rfl,(unhide TZ).1⟩
   ·
    have HW2:=hide (unhide HW (unhide HNone))
    have p0:=(unhide T9).2.1.cell 0 _ rfl
    have b0:=(unhide T9).2.2.cell 0 _ rfl
    have g0:=(unhide T9).2.2.free 0 (by decide)
    have b1:=(unhide T9).2.2.cell 1 _ rfl
    have g1:=(unhide T9).2.2.free 1 (by decide)
    have TZ:=hide ((unhide T9).put (a:=t) (b:=⟨#[]⟩))
    go_wp2
    have z0:=(unhide TZ).2.2.cell 0 _ rfl
    have z1:=(unhide TZ).2.2.cell 1 _ rfl
    exact bodyPost_ret (v:=.tuple #[.agg #[.string t,.string ⟨#[]⟩],.bool true]) (by simp [results,Tryz.results10,go_sem,z0,z1]) rfl ⟨by rw [unhide HW2]; rfl,(unhide TZ).1⟩
  ·
   cases B3
   ·
    have HNone:Hid (riseO l=none):=by show _=_; rw [unhide HNum,if_neg (fun e=>by have:=e.2; cases this)]
    clear HNum HS
    go_big_quiet_step (fail)
    go_big_quiet_step (fail)
    go_big_quiet_step (fail)
    go_big_quiet_step (fail)
    go_big_quiet_step (fail)
    go_big_quiet_step (fail)
    go_big_quiet_step (fail)
    go_big_quiet_step (exact q2 _ _)
    go_big_quiet_step (fail)
    go_big_quiet_step (fail)
    go_big_quiet_step (fail)
    go_big_quiet_step (fail)
    go_big_quiet_step (fail)
    go_big_quiet_step (fail)
    go_big_quiet_step (fail)
    go_big_quiet_step (fail)
    go_big_quiet_step (fail)
    go_big_quiet_step (fail)
    go_big_quiet_step (exact q3 _ _)
    go_big_quiet_step (fail)
    refine wpQuiet_nil ?_
    intro zw hw'
    obtain ⟨⟨dq,osq⟩,hw2⟩:=hw'
    have HZ:=below_regrown x1 dq osq
    rw [←hw2] at HZ
    have T2:=hide ((unhide T1).later HZ)
    clear hw2 HZ T1 q2 q3 k0 k1
    have p0:=(unhide T2).2.1.cell 0 _ rfl
    go_wp2_with fail
    refine (unhide C4 _).mono ?_
    rintro e x9 ⟨rfl,hb9⟩
    have T9:=hide ((unhide T2).later hb9)
    clear hb9 p0
    cases B4
    ·
     have HW2:=hide (unhide HW (unhide HNone))
     have b0:=(unhide T9).2.2.cell 0 _ rfl
     have g0:=(unhide T9).2.2.free 0 (by decide)
     have b1:=(unhide T9).2.2.cell 1 _ rfl
     have g1:=(unhide T9).2.2.free 1 (by decide)
     have TZ:=hide ((unhide T9).put (a:=⟨#[]⟩) (b:=⟨#[]⟩))
     go_wp2
     have z0:=(unhide TZ).2.2.cell 0 _ rfl
     have z1:=(unhide TZ).2.2.cell 1 _ rfl
     exact bodyPost_ret (v:=.tuple #[.agg #[.string ⟨#[]⟩,.string ⟨#[]⟩],.bool false]) (by simp [results,Tryz.results10,go_sem,z0,z1]) rfl ⟨by rw [unhide HW2]; rfl,(unhide TZ).1⟩
    ·
     have HW2:=hide (unhide HW (unhide HNone))
     have p0:=(unhide T9).2.1.cell 0 _ rfl
     have b0:=(unhide T9).2.2.cell 0 _ rfl
     have g0:=(unhide T9).2.2.free 0 (by decide)
     have b1:=(unhide T9).2.2.cell 1 _ rfl
     have g1:=(unhide T9).2.2.free 1 (by decide)
     have TZ:=hide ((unhide T9).put (a:=t) (b:=⟨#[]⟩))
     go_wp2
     have z0:=(unhide TZ).2.2.cell 0 _ rfl
     have z1:=(unhide TZ).2.2.cell 1 _ rfl
     exact bodyPost_ret (v:=.tuple #[.agg #[.string t,.string ⟨#[]⟩],.bool true]) (by simp [results,Tryz.results10,go_sem,z0,z1]) rfl ⟨by rw [unhide HW2]; rfl,(unhide TZ).1⟩
   ·
    have HW2:Hid (riseV t l=_):=unhide HS X (by rw [unhide HNum,if_pos ⟨of_decide_eq_true (unhide HDD),rfl⟩])
    clear HNum HS HW
    go_big_quiet_step (fail)
    go_big_quiet_step (fail)
    go_big_quiet_step (fail)
    go_big_quiet_step (fail)
    go_big_quiet_step (fail)
    go_big_quiet_step (fail)
    go_big_quiet_step (fail)
    go_big_quiet_step (exact q2 _ _)
    go_big_quiet_step (fail)
    go_big_quiet_step (fail)
    go_big_quiet_step (fail)
    go_big_quiet_step (fail)
    go_big_quiet_step (fail)
    go_big_quiet_step (fail)
    go_big_quiet_step (fail)
    go_big_quiet_step (fail)
    go_big_quiet_step (fail)
    go_big_quiet_step (fail)
    go_big_quiet_step (exact q3 _ _)
    go_big_quiet_step (fail)
    refine wpQuiet_nil ?_
    intro zw hw'
    obtain ⟨⟨dq,osq⟩,hw2⟩:=hw'
    have HZ:=below_regrown x1 dq osq
    rw [←hw2] at HZ
    have T2:=hide ((unhide T1).later HZ)
    have d1:=(HZ.cell (p:=⟨g,1,none⟩) hg).trans c1
    clear hw2 HZ T1 q2 q3 k0 k1
    have b0:=(unhide T2).2.2.cell 0 _ rfl
    have g0:=(unhide T2).2.2.free 0 (by decide)
    have b1:=(unhide T2).2.2.cell 1 _ rfl
    have g1:=(unhide T2).2.2.free 1 (by decide)
    have TZ:=hide ((unhide T2).put (a:=X) (b:=⟨#[]⟩))
    go_wp2
    have z0:=(unhide TZ).2.2.cell 0 _ rfl
    have z1:=(unhide TZ).2.2.cell 1 _ rfl
    exact bodyPost_ret (v:=.tuple #[.agg #[.string X,.string ⟨#[]⟩],.bool true]) (by simp [results,Tryz.results10,go_sem,z0,z1]) rfl ⟨by rw [unhide HW2],(unhide TZ).1⟩
end Go.Proofs.YtemjckkocljgnaaGreatDoor

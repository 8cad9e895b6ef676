/- Of what the proof is made: 2 texts, one behind the other. -/
import Derived.Test.YtkdlcomfpffhhaaGreatDoorM3
import Derived.Test.YtkdlcomfpffhhaaGreatDoorM8
namespace Go.Proofs.YtkdlcomfpffhhaaGreatDoor
open Go.RowKit
theorem cut_yes {Q:List (List UInt8)} {x t:List UInt8} (h:Q++[x]=cutG [] t):cutG [] (t++[47])=(Q++[x])++[[]]:=by
 rw [cutG_snoc,if_pos rfl,h]
theorem cut_no {Q:List (List UInt8)} {x t:List UInt8} {b:UInt8} (h:Q++[x]=cutG [] t) (hb:¬ b=47):cutG [] (t++[b])=Q++[x++[b]]:=by
 rw [cutG_snoc,if_neg hb,←h]; simp
theorem ex_list (s:ByteArray) (f k:Nat):(s.extract f k).data.toList=(s.data.toList.take k).drop f:=by
 rw [Lib.extract_data]; simp [List.drop_take]
theorem ex_snoc (s:ByteArray) (f k:Nat) (hf:f≤k) (hk:k<s.size):(s.extract f (k+1)).data.toList=(s.extract f k).data.toList++[s[k]]:=by
 have hk':k<s.data.toList.length:=by simpa using hk
 rw [ex_list,ex_list,List.take_succ_eq_append_getElem hk',List.drop_append_of_le_length (by simp; omega)]
 rfl
theorem take_snocB (s:ByteArray) (k:Nat) (hk:k<s.size):s.data.toList.take (k+1)=s.data.toList.take k++[s[k]]:=by
 have hk':k<s.data.toList.length:=by simpa using hk
 rw [List.take_succ_eq_append_getElem hk']
 rfl
theorem ex_same (s:ByteArray) (k:Nat):(s.extract k k).data.toList=[]:=by
 rw [ex_list]; simp
theorem step_yes {Q:List (List UInt8)} {x:List UInt8} (s:ByteArray) (k:Nat) (hk:k<s.size) (hb:s[k].toNat=47) (h:Q++[x]=cutG [] (s.data.toList.take k)):cutG [] (s.data.toList.take (k+1))=(Q++[x])++[[]]:=by
 have e:s[k]=47:=UInt8.toNat_inj.1 hb
 rw [take_snocB s k hk,e]
 exact cut_yes h
theorem step_no {Q:List (List UInt8)} (s:ByteArray) (f k:Nat) (hf:f≤k) (hk:k<s.size) (hb:¬ s[k].toNat=47) (h:Q++[(s.extract f k).data.toList]=cutG [] (s.data.toList.take k)):cutG [] (s.data.toList.take (k+1))=Q++[(s.extract f (k+1)).data.toList]:=by
 have e:¬ s[k]=47:=fun e=>hb (by rw [e]; rfl)
 rw [take_snocB s k hk,ex_snoc s f k hf hk]
 exact cut_no h e
set_option maxRecDepth 100000 in
set_option maxHeartbeats 1600000 in
theorem l1Cut_any (s:ByteArray) (w:World) (hs:s.size≤1048576) :
  Calls Tryz.prog 57 #[.string s,.int .u8 47,.int .i64 ((s.size:Int)+1)] w fun e w'=>∃ v P,e = .returned v∧SOwn w' w.heap.size v P∧P.map (·.data.toList)=cutP s.data.toList∧Below w.heap.size w w':=by
 obtain ⟨i0,hi,hz0,hz1,hz2⟩:=info_parts Tryz.infoStr
 have hsI:(s.size:Int)≤1048576:=by omega
 have HSZ:=hide hs
 have hq0:=hide (SOwn.lit w w.heap.size (Nat.le_refl _))
 have hb0:Hid (Below w.heap.size w (w.alloc (.cells #[] 9))):=(Below.refl _ _).alloc (Nat.le_refl _) _
 clear hs
 go_enter Tryz.func57,Tryz.ntmps57
 go_wp2_with fail
 go_loopw [7,8,9] (fun v fr i wr=>∃ (k f:Nat) (P:List ByteArray),k≤s.size∧f≤k∧i = .int .i64 k∧fr = .int .i64 f∧SOwn wr w.heap.size v P∧P.length≤k∧P.map (·.data.toList)++[(s.extract f k).data.toList]=cutG [] (s.data.toList.take k)∧Below w.heap.size w wr) (fun _ _ i _=>s.size-(intOf i).toNat)
 case atStart=>exact ⟨0,0,[],Nat.zero_le _,Nat.le_refl _,rfl,rfl,unhide hq0,Nat.le_refl _,by simp [cutG],unhide hb0⟩
 case round=>
  obtain ⟨k,f,P,hk,hf,rfl,rfl,hq,hPl,hcut,hbel⟩:=hrel
  obtain ⟨m,hm⟩:∃ m,P.length=m:=⟨_,rfl⟩
  rw [hm] at hPl
  have hmI:(m:Int)≤(k:Int):=by omega
  have hkI:(k:Int)≤(s.size:Int):=by omega
  have hfI:(f:Int)≤(k:Int):=by omega
  have HM:=hide hm
  obtain ⟨va,vc,rfl⟩:=hq.formN hm
  have hqo:=hide (hq.own hm)
  have hbs:=hbel.size
  have HBel:=hide hbel
  have HCut:=hide hcut
  have HF:=hide hf
  have HK:=hide hk
  have bd:Hid (m+1≤maxLen∧(m+1)*16≤140737488355328):=by have:=unhide HSZ; show _∧_; unfold maxLen; omega
  have HPl:=hide hPl
  clear hq hbel hm hcut hPl
  by_cases hlt:k<s.size
  ·
   have hltI:(k:Int)<(s.size:Int):=by omega
   have hmS:(m:Int)<(s.size:Int)+1:=by omega
   have HLt:=hide hlt
   by_cases hb:s[k].toNat=47
   ·
    have HE:=hide (step_yes s k hlt hb (unhide HCut))
    go_wp2_with (at_builtin; refine wpList_append_own _ rfl _ _ 47 rfl w.heap.size 9 i0 (.string ByteArray.empty) 1 16 Tryz.underlying47 hi hz0 hz1 hz2 rfl (by decide) _ _ _ rfl (World.ownsRow.alloc (unhide hqo) _) ⟨wr.heap.size,0,none⟩ 1 1 [.string (s.extract f k)] rfl rfl (one_new _ _ rfl _ _) (one_str _) (unhide bd).1 (unhide bd).2 (size_alloc_le hbs _) ?_; intro v' x2 hown hgrow hnil; clear hnil)
    have hb2:=grown_step (v:=.slice va m vc) hgrow (unhide hqo) (Nat.le_refl _) hbs (unhide HBel)
    have hq2:=hide (sown_snoc (b:=s.extract f k) (unhide HM) hown)
    have HB2:=hide hb2
    clear hown hgrow hb2
    go_wp2
    go_roundw
    case rel=>
     refine ⟨k+1,k+1,P++[s.extract f k],by have:=unhide HLt; omega,Nat.le_refl _,by go_num,by go_num,unhide hq2,by have:=unhide HM; have:=unhide HPl; simp; omega,?_,unhide HB2⟩
     rw [unhide HE,ex_same]; simp
    case measure=>have:=unhide HLt; simp [intOf]; omega
   ·
    have hbI:¬ (s[k].toNat:Int)=47:=by omega
    have HE:=hide (step_no s f k (unhide HF) hlt hb (unhide HCut))
    go_wp2
    go_roundw
    case rel=>
     refine ⟨k+1,f,P,by have:=unhide HLt; omega,by have:=unhide HF; omega,by go_num,rfl,?_,by have:=unhide HM; have:=unhide HPl; omega,?_,unhide HBel⟩
     ·
      have:=unhide hqo
      rw [←unhide HM] at this ⊢
      exact this
     ·
      rw [unhide HE]
    case measure=>have:=unhide HLt; simp [intOf]; omega
  ·
   obtain rfl:k=s.size:=by have:=unhide HK; omega
   go_wp2_with (at_builtin; refine wpList_append_own _ rfl _ _ 47 rfl w.heap.size 9 i0 (.string ByteArray.empty) 1 16 Tryz.underlying47 hi hz0 hz1 hz2 rfl (by decide) _ _ _ rfl (World.ownsRow.alloc (unhide hqo) _) ⟨wr.heap.size,0,none⟩ 1 1 [.string (s.extract f s.size)] rfl rfl (one_new _ _ rfl _ _) (one_str _) (unhide bd).1 (unhide bd).2 (size_alloc_le hbs _) ?_; intro v' x2 hown hgrow hnil; clear hnil)
   have hb2:=grown_step (v:=.slice va m vc) hgrow (unhide hqo) (Nat.le_refl _) hbs (unhide HBel)
   have hq2:=hide (sown_snoc (b:=s.extract f s.size) (unhide HM) hown)
   have HB2:=hide hb2
   clear hown hgrow hb2
   go_wp2
   go_ret
   refine ⟨_,_,rfl,unhide hq2,?_,unhide HB2⟩
   have hc:=unhide HCut
   have hl:s.data.toList.take s.size=s.data.toList:=List.take_of_length_le (by simp)
   rw [hl] at hc
   rw [List.map_append]
   exact hc
theorem okB_iff (b:UInt8):okB b=true↔(97≤b.toNat∧b.toNat≤122)∨(48≤b.toNat∧b.toNat≤57)∨b.toNat=46∨b.toNat=45∨b.toNat=95:=by
 simp [okB]
theorem part_byte {p:ByteArray} {m:Nat} (hm:m<p.size) (h:okB p[m]=false):partB p.data.toList=false:=by
 have:p.data.toList.all okB=false:=by
  rw [List.all_eq_false]
  refine ⟨p[m],?_,by simp [h]⟩
  have e:p[m]=p.data.toList[m]'(by simpa using hm):=rfl
  rw [e]; exact List.getElem_mem _
 simp [partB,this]
theorem part_size {p:ByteArray} (h:inB (p.size:Int) 1 10=false):partB p.data.toList=false:=by
 have hb:=inB_false.1 h
 have e:p.data.toList.length=p.size:=by simp
 have:(decide (1≤p.data.toList.length)&&decide (p.data.toList.length≤10))=false:=by rw [e]; simp; omega
 simp only [partB]
 rw [←Bool.and_assoc (decide _),this]; simp
theorem part_ok {p:ByteArray} (h:∀ j (hj:j<p.size),okB p[j]=true) (hs:inB (p.size:Int) 1 10=true) (h1:(p.toList == [46])=false) (h2:(p.toList == [46,46])=false):partB p.data.toList=true:=by
 obtain ⟨b0,b1⟩:=inB_true.1 hs
 have e:p.data.toList.length=p.size:=by simp
 have a:p.data.toList.all okB=true:=by
  rw [List.all_eq_true]
  intro x hx
  obtain ⟨j,hj,rfl⟩:=List.getElem_of_mem hx
  exact h j (by rw [←e]; exact hj)
 rw [Lib.toList_data] at h1 h2
 simp only [partB,a,h1,h2,e]
 simp; omega
theorem part_dot {p:ByteArray} (h:(p.toList == [46])=true):partB p.data.toList=false:=by
 rw [Lib.toList_data] at h
 rw [beq_iff_eq.1 h]; decide
theorem part_dots {p:ByteArray} (h:(p.toList == [46,46])=true):partB p.data.toList=false:=by
 rw [Lib.toList_data] at h
 rw [beq_iff_eq.1 h]; decide
theorem name_no {s:ByteArray} {l:List ByteArray} (hl:l.map (·.data.toList)=cutP s.data.toList) {j:Nat} (hj:j<l.length) (h:partB (l.getD j ByteArray.empty).data.toList=false):nameB s.data.toList=false:=by
 have:(cutP s.data.toList).all partB=false:=by
  rw [←hl,List.all_eq_false]
  refine ⟨(l.getD j ByteArray.empty).data.toList,?_,by rw [h]; simp⟩
  rw [List.mem_map]
  exact ⟨l.getD j ByteArray.empty,by simp [List.getD,hj],rfl⟩
 simp [nameB,this]
theorem name_yes {s:ByteArray} {l:List ByteArray} (hl:l.map (·.data.toList)=cutP s.data.toList) (h:∀ j,j<l.length→partB (l.getD j ByteArray.empty).data.toList=true):nameB s.data.toList=decide (l.length≤4):=by
 have e:(cutP s.data.toList).length=l.length:=by rw [←hl]; simp
 have:(cutP s.data.toList).all partB=true:=by
  rw [←hl,List.all_eq_true]
  intro x hx
  rw [List.mem_map] at hx
  obtain ⟨y,hy,rfl⟩:=hx
  obtain ⟨j,hj,rfl⟩:=List.getElem_of_mem hy
  have:=h j hj
  simpa [List.getD,hj] using this
 simp [nameB,this,e]
theorem cut_small:∀ (l cur x:List UInt8),x∈cutG cur l→x.length≤cur.length+l.length
 | [],cur,x,h=>by simp [cutG] at h; subst h; simp
 | b :: l,cur,x,h=>by
  unfold cutG at h
  split at h
  ·
   rcases List.mem_cons.1 h with rfl | h
   ·
    simp
   ·
    have:=cut_small l [] x h; simp at this ⊢; omega
  ·
   have:=cut_small l (cur++[b]) x h; simp at this ⊢; omega
set_option maxRecDepth 100000 in
set_option maxHeartbeats 4000000 in
theorem specNameOk_any (s:ByteArray) (w:World) (hs:s.size≤1048576) :
  Calls Tryz.prog 27 #[.string s] w fun e w'=>e = .returned (.bool (nameB s.data.toList))∧Below w.heap.size w w':=by
 have HSZ:=hide hs
 have hsI:(s.size:Int)≤1048576:=by omega
 clear hs
 go_enter Tryz.func27,Tryz.ntmps27
 go_wp2_with fail
 refine (l1Cut_any s _ (unhide HSZ)).mono ?_
 rintro e x1 ⟨v,l,rfl,hq,hcut,hb1⟩
 obtain ⟨n,hn⟩:∃ n,l.length=n:=⟨_,rfl⟩
 obtain ⟨va,vc,rfl⟩:=hq.formN hn
 have hn0:0<n:=by
  have e:=congrArg List.length hcut
  have:=cutG_ne s.data.toList []
  cases h:cutG [] s.data.toList with
  | nil=>exact absurd h this
  | cons a t=>
   simp only [cutP,h,List.length_map,List.length_cons] at e
   omega
 have hnS:n≤s.size+1:=by
  have e:=congrArg List.length hcut
  have:=cutG_len s.data.toList []
  simp only [List.length_map] at e
  have h2:s.data.toList.length=s.size:=by simp
  unfold cutP at e
  omega
 have hnI:(n:Int)≤1048577:=by omega
 obtain ⟨g,rfl,hg,hcl⟩:=hq.at hn hn0
 have PL:Hid (∀ k,k<n→(l.getD k ByteArray.empty).size≤1048576):=by
  intro k hk
  have hmem:(l.getD k ByteArray.empty).data.toList∈cutP s.data.toList:=by
   rw [←hcut,List.mem_map]
   exact ⟨l.getD k ByteArray.empty,by simp [List.getD,hn,hk],rfl⟩
  have:=cut_small s.data.toList [] _ hmem
  have e1:(l.getD k ByteArray.empty).data.toList.length=(l.getD k ByteArray.empty).size:=by simp
  have e2:s.data.toList.length=s.size:=by simp
  have:=unhide HSZ
  simp only [List.length_nil] at *
  omega
 have HC:=hide hcl
 have HB:=hide hb1
 have HNO:=hide (fun j (hj:j<l.length)=>@name_no s l hcut j hj)
 have HYES:=hide (@name_yes s l hcut)
 rw [hn] at HNO HYES
 clear hq hcut hcl hb1 hn0 hnS HSZ hsI
 go_wp2_with fail
 go_loop [4,5,6] (fun i _ _=>∃ k:Nat,k≤n∧i = .int .i64 k∧∀ j,j<k→partB (l.getD j ByteArray.empty).data.toList=true) (fun i _ _=>n-(intOf i).toNat)
 case atStart=>exact ⟨0,Nat.zero_le _,rfl,fun j hj=>absurd hj (by omega)⟩
 case round=>
  obtain ⟨k,hk,rfl,hall⟩:=hrel
  have HALL:=hide hall
  have HK:=hide hk
  clear hall
  by_cases hkn:k<n
  ·
   have hkI:(k:Int)<(n:Int):=by omega
   have hc:=unhide HC k hkn
   have HNOk:=hide (unhide HNO k hkn)
   have HNX:Hid (partB (l.getD k ByteArray.empty).data.toList=true→∀ j,j<k+1→partB (l.getD j ByteArray.empty).data.toList=true):=by
    intro e j hj
    by_cases hjk:j=k
    ·
     rw [hjk]; exact e
    ·
     exact unhide HALL j (by omega)
   have HKN:=hide hkn
   clear hk HALL
   have HPS:=hide (unhide PL k hkn)
   generalize l.getD k ByteArray.empty=p at *
   have hpS:(p.size:Int)≤9223372036854775807:=by
    have:=unhide HPS; omega
   go_wp2_with fail
   go_loop [6] (fun q=>∃ m:Nat,m≤p.size∧q = .int .i64 m∧∀ j (hj:j<p.size),j<m→okB p[j]=true) (fun q=>p.size-(intOf q).toNat)
   case atStart=>exact ⟨0,Nat.zero_le _,rfl,fun j _ hj=>absurd hj (by omega)⟩
   case round=>
    obtain ⟨m,hm,rfl,hoks⟩:=hrel
    have HOKS:=hide hoks
    have HMM:=hide hm
    clear hoks
    by_cases hml:m<p.size
    ·
     have hmI:(m:Int)<(p.size:Int):=by omega
     have HML:=hide hml
     have HMX:Hid (okB p[m]=true→∀ j (hj:j<p.size),j<m+1→okB p[j]=true):=by
      intro e j hj hjm
      by_cases hjk:j=m
      ·
       subst hjk; exact e
      ·
       exact unhide HOKS j hj (by omega)
     have hlo:(0:Int)≤(p[m].toNat:Int):=by omega
     have hhi:(p[m].toNat:Int)<256:=by have:=p[m].toNat_lt; omega
     clear hm HOKS HMM
     cases hok:okB p[m]
     ·
      have hno:¬ ((97≤p[m].toNat∧p[m].toNat≤122)∨(48≤p[m].toNat∧p[m].toNat≤57)∨p[m].toNat=46∨p[m].toNat=45∨p[m].toNat=95):=fun e=>Bool.noConfusion (hok.symm.trans ((okB_iff _).2 e))
      have e46:¬ (p[m].toNat:Int)=46:=by omega
      have e45:¬ (p[m].toNat:Int)=45:=by omega
      have e95:¬ (p[m].toNat:Int)=95:=by omega
      by_cases a1:(97:Int)≤(p[m].toNat:Int)
      ·
       have a2:¬ (p[m].toNat:Int)≤122:=by omega
       have a3:(48:Int)≤(p[m].toNat:Int):=by omega
       clear hno
       have HP:=hide (unhide HNOk (part_byte (unhide HML) hok))
       go_wp2
       all_goals first
        | (go_ret; exact ⟨ret_bool (unhide HP).symm,unhide HB⟩)
        | (exfalso; rename_i hx; first | omega | (simp at hx; omega))
        | (exfalso; rename_i hx _ _; simp at hx; omega)
      ·
       by_cases a3:(48:Int)≤(p[m].toNat:Int)
       ·
        have a4:¬ (p[m].toNat:Int)≤57:=by omega
        clear hno
        have HP:=hide (unhide HNOk (part_byte (unhide HML) hok))
        go_wp2
        all_goals first
         | (go_ret; exact ⟨ret_bool (unhide HP).symm,unhide HB⟩)
         | (exfalso; rename_i hx; first | omega | (simp at hx; omega))
         | (exfalso; rename_i hx _ _; simp at hx; omega)
       ·
        skip
        clear hno
        have HP:=hide (unhide HNOk (part_byte (unhide HML) hok))
        go_wp2
        all_goals first
         | (go_ret; exact ⟨ret_bool (unhide HP).symm,unhide HB⟩)
         | (exfalso; rename_i hx; first | omega | (simp at hx; omega))
         | (exfalso; rename_i hx _ _; simp at hx; omega)
     ·
      have hyes:=(okB_iff p[m]).1 hok
      rcases hyes with ⟨a1,a2⟩ | ⟨a1,a2⟩ | a1 | a1 | a1
      ·
       have b1:(97:Int)≤(p[m].toNat:Int):=by omega
       have b2:(p[m].toNat:Int)≤122:=by omega
       clear a1 a2
       go_wp2
       all_goals first
        | (
          go_round
          case rel=>exact ⟨m+1,by have:=unhide HML; omega,by go_num,unhide HMX hok⟩
          case measure=>have:=unhide HML; simp [intOf]; omega)
        | (exfalso; rename_i hx; first | omega | (simp at hx; omega))
        | (exfalso; rename_i hx _ _; simp at hx; omega)
      ·
       have b1:¬ (97:Int)≤(p[m].toNat:Int):=by omega
       have b2:(48:Int)≤(p[m].toNat:Int):=by omega
       have b3:(p[m].toNat:Int)≤57:=by omega
       clear a1 a2
       go_wp2
       all_goals first
        | (
          go_round
          case rel=>exact ⟨m+1,by have:=unhide HML; omega,by go_num,unhide HMX hok⟩
          case measure=>have:=unhide HML; simp [intOf]; omega)
        | (exfalso; rename_i hx; first | omega | (simp at hx; omega))
        | (exfalso; rename_i hx _ _; simp at hx; omega)
      ·
       have b1:(p[m].toNat:Int)=46:=by omega
       clear a1
       go_wp2
       all_goals first
        | (
          go_round
          case rel=>exact ⟨m+1,by have:=unhide HML; omega,by go_num,unhide HMX hok⟩
          case measure=>have:=unhide HML; simp [intOf]; omega)
        | (exfalso; rename_i hx; first | omega | (simp at hx; omega))
        | (exfalso; rename_i hx _ _; simp at hx; omega)
      ·
       have b1:(p[m].toNat:Int)=45:=by omega
       clear a1
       go_wp2
       all_goals first
        | (
          go_round
          case rel=>exact ⟨m+1,by have:=unhide HML; omega,by go_num,unhide HMX hok⟩
          case measure=>have:=unhide HML; simp [intOf]; omega)
        | (exfalso; rename_i hx; first | omega | (simp at hx; omega))
        | (exfalso; rename_i hx _ _; simp at hx; omega)
      ·
       have b1:(p[m].toNat:Int)=95:=by omega
       clear a1
       go_wp2
       all_goals first
        | (
          go_round
          case rel=>exact ⟨m+1,by have:=unhide HML; omega,by go_num,unhide HMX hok⟩
          case measure=>have:=unhide HML; simp [intOf]; omega)
        | (exfalso; rename_i hx; first | omega | (simp at hx; omega))
        | (exfalso; rename_i hx _ _; simp at hx; omega)
    ·
     obtain rfl:m=p.size:=by have:=unhide HMM; omega
     have HOK2:Hid (∀ j (hj:j<p.size),okB p[j]=true):=fun j hj=>unhide HOKS j hj hj
     clear HOKS hml hm
     cases hz:inB (p.size:Int) 1 10
     ·
      have HP:=hide (unhide HNOk (part_size hz))
      go_wp2_with (go_at_call 58; refine (l1In_any _ _ _ _).mono ?_; rintro e w9 ⟨rfl,hw9⟩; rw [hw9]; clear hw9; rw [hz])
      go_ret
      exact ⟨ret_bool (unhide HP).symm,unhide HB⟩
     ·
      cases d1:(p.toList == [46])
      ·
       cases d2:(p.toList == [46,46])
       ·
        have HP:=hide (unhide HNX (part_ok (unhide HOK2) hz d1 d2))
        go_wp2_with (go_at_call 58; refine (l1In_any _ _ _ _).mono ?_; rintro e w9 ⟨rfl,hw9⟩; rw [hw9]; clear hw9; rw [hz])
        go_round
        case rel=>exact ⟨k+1,by have:=unhide HKN; omega,by go_num,unhide HP⟩
        case measure=>have:=unhide HKN; simp [intOf]; omega
       ·
        have HP:=hide (unhide HNOk (part_dots d2))
        have d2':p.toList=[46,46]:=by simpa using d2
        go_wp2_with (go_at_call 58; refine (l1In_any _ _ _ _).mono ?_; rintro e w9 ⟨rfl,hw9⟩; rw [hw9]; clear hw9; rw [hz])
        go_ret
        exact ⟨ret_bool (unhide HP).symm,unhide HB⟩
      ·
       have HP:=hide (unhide HNOk (part_dot d1))
       have d1':p.toList=[46]:=by simpa using d1
       go_wp2_with (go_at_call 58; refine (l1In_any _ _ _ _).mono ?_; rintro e w9 ⟨rfl,hw9⟩; rw [hw9]; clear hw9; rw [hz])
       go_ret
       exact ⟨ret_bool (unhide HP).symm,unhide HB⟩
  ·
   obtain rfl:k=n:=by omega
   have HY:=hide (unhide HYES (unhide HALL))
   clear HALL HYES HNO HC
   by_cases h4:k≤4
   ·
    have h4I:(k:Int)≤4:=by omega
    go_wp2
    go_ret
    exact ⟨ret_bool (by rw [unhide HY]; simp [h4]),unhide HB⟩
   ·
    have h4I:¬ (k:Int)≤4:=by omega
    go_wp2
    go_ret
    exact ⟨ret_bool (by rw [unhide HY]; simp [h4]),unhide HB⟩
end Go.Proofs.YtkdlcomfpffhhaaGreatDoor

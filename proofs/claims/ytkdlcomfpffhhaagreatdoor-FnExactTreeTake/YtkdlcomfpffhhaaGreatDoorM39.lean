/- Of what the proof is made: 12 texts, one behind the other. -/
import Derived.Test.YtkdlcomfpffhhaaGreatDoorM37
import Derived.Test.YtkdlcomfpffhhaaGreatDoorM36
import Derived.Test.YtkdlcomfpffhhaaGreatDoorM3
import Derived.Test.YtkdlcomfpffhhaaGreatDoorM24
import Derived.Test.YtkdlcomfpffhhaaGreatDoorM38
import Derived.Test.YtkdlcomfpffhhaaGreatDoorM17
import Derived.Lib.QuietBelow
import Derived.Deep.QuietTactic
import Derived.BigQuiet
import Derived.Test.YtkdlcomfpffhhaaGreatDoorM31
import Derived.Test.YtkdlcomfpffhhaaGreatDoorM8
import Derived.Test.YtkdlcomfpffhhaaGreatDoorM23
namespace Go.Proofs.YtkdlcomfpffhhaaGreatDoor
open Corb
set_option maxRecDepth 100000
def sub (s:ByteArray) (p:Nat):ByteArray:=s.extract p s.size
theorem sub_list (s:ByteArray) (p:Nat):(sub s p).data.toList=s.data.toList.drop p:=by
 rw [sub,ext_list]; exact List.take_of_length_le (by simp)
theorem sub_size (s:ByteArray) (p:Nat):(sub s p).size=s.size-p:=by
 rw [sub,ByteArray.size_extract]; omega
def locN (s:ByteArray):Nat:=30+wd s.data.toList 26 2+wd s.data.toList 18 4
def enO (s T:ByteArray):En:=⟨nmB s,gY (wd s.data.toList 10 4:Nat),gM (wd s.data.toList 10 4:Nat),gD (wd s.data.toList 10 4:Nat),gH (wd s.data.toList 10 4:Nat),gI (wd s.data.toList 10 4:Nat),gS (wd s.data.toList 10 4:Nat),T⟩
def ctO (s:ByteArray) (p:Nat):ByteArray:=centB (wd s.data.toList 8 2) (wd s.data.toList 10 4) (wd s.data.toList 14 4) (wd s.data.toList 18 4) (wd s.data.toList 22 4) (nmB s) p
theorem loc_some {s T:ByteArray} (h:locG s=some T):hdB s=true∧entE (enO s T)=true:=by
 unfold locG at h
 split at h
 ·
  rename_i h0
  refine ⟨h0,?_⟩
  split at h
  ·
   split at h
   ·
    rename_i h2
    cases h
    simp only [fitB,Bool.and_eq_true] at h2
    exact h2.2.2
   ·
    cases h
  ·
   cases h
 ·
  cases h
def zst (s:ByteArray):Nat→Option (List En×ByteArray×Nat)
 | 0=>some ([],⟨#[]⟩,0)
 | i+1=>(zst s i).bind fun q=>(locG (sub s q.2.2)).map fun T=>(q.1++[enO (sub s q.2.2) T],q.2.1++ctO (sub s q.2.2) q.2.2,q.2.2+locN (sub s q.2.2))
theorem zst_yes {s T:ByteArray} {i:Nat} {q:List En×ByteArray×Nat} (h:zst s i=some q) (hT:locG (sub s q.2.2)=some T) :
  zst s (i+1)=some (q.1++[enO (sub s q.2.2) T],q.2.1++ctO (sub s q.2.2) q.2.2,q.2.2+locN (sub s q.2.2)):=by
 rw [zst,h,Option.bind_some,hT,Option.map_some]
theorem zst_no {s:ByteArray} {i:Nat} {q:List En×ByteArray×Nat} (h:zst s i=some q) (hT:locG (sub s q.2.2)=none):zst s (i+1)=none:=by
 rw [zst,h,Option.bind_some,hT,Option.map_none]
theorem zst_none {s:ByteArray} {i:Nat} (h:zst s i=none):∀ m,i≤m→zst s m=none
 | 0,hm=>by
  have:i=0:=by omega
  rw [←this]; exact h
 | m+1,hm=>by
  by_cases e:i=m+1
  ·
   rw [←e]; exact h
  ·
   rw [zst,zst_none h m (by omega)]; rfl
theorem zst_step {s:ByteArray} {i:Nat} {q:List En×ByteArray×Nat} (h:zst s (i+1)=some q):∃ r T,zst s i=some r∧locG (sub s r.2.2)=some T∧q=(r.1++[enO (sub s r.2.2) T],r.2.1++ctO (sub s r.2.2) r.2.2,r.2.2+locN (sub s r.2.2)):=by
 rw [zst] at h
 rcases hr:zst s i with _ | r
 ·
  rw [hr] at h; cases h
 ·
  rw [hr,Option.bind_some] at h
  rcases hT:locG (sub s r.2.2) with _ | T
  ·
   rw [hT] at h; cases h
  ·
   rw [hT,Option.map_some] at h
   cases h
   exact ⟨r,T,rfl,hT,rfl⟩
theorem loc_fits {s T:ByteArray} (h:locG s=some T):locN s≤s.size:=(hdB_is.1 (loc_some h).1).2.2
theorem zst_at {s:ByteArray} : ∀ {i:Nat} {q:List En×ByteArray×Nat},zst s i=some q→q.1.length=i∧q.2.2≤s.size∧(∀ e∈q.1,entE e=true)∧(q.2.1=⟨#[]⟩∨q.2.1.data.toList.take 4=[80,75,1,2])∧q.2.1.size≤100*i
 | 0,q,h=>by cases h; exact ⟨rfl,Nat.zero_le _,(fun e he=>by cases he),.inl rfl,Nat.zero_le _⟩
 | i+1,q,h=>by
  obtain ⟨r,T,h1,h2,rfl⟩:=zst_step h
  obtain ⟨a1,a2,a3,a4,a5⟩:=zst_at h1
  have hf:=loc_fits h2
  rw [sub_size] at hf
  have hE:=(loc_some h2).2
  have hn:=(ent_facts (n:=(enO (sub s r.2.2) T).n) (t:=(enO (sub s r.2.2) T).t) hE).1
  have hc:(ctO (sub s r.2.2) r.2.2).size=46+(nmB (sub s r.2.2)).size:=centB_size _ _ _ _ _ _ _
  have hn2:(nmB (sub s r.2.2)).size≤43:=hn
  refine ⟨by simp [a1],?_,?_,?_,?_⟩
  ·
   show r.2.2+locN (sub s r.2.2)≤s.size
   omega
  ·
   intro e he
   rcases List.mem_append.1 he with he | he
   ·
    exact a3 e he
   ·
    rw [List.mem_singleton.1 he]; exact hE
  ·
   refine .inr ?_
   show (r.2.1++ctO (sub s r.2.2) r.2.2).data.toList.take 4=_
   have e0:(ctO (sub s r.2.2) r.2.2).data.toList.take 4=[80,75,1,2]:=by simp [ctO,centB]
   rcases a4 with e | e
   ·
    rw [e]; simpa using e0
   ·
    have:4≤r.2.1.data.toList.length:=by
     have:=congrArg List.length e
     rw [List.length_take] at this
     simp at this ⊢; omega
    simp only [ByteArray.data_append,Array.toList_append]
    rw [List.take_append_of_le_length this]; exact e
  ·
   show (r.2.1++ctO (sub s r.2.2) r.2.2).size≤_
   rw [ByteArray.size_append,hc]; omega
theorem zst_less {s:ByteArray} {k:Nat} : ∀ {m:Nat} {q:List En×ByteArray×Nat},zst s m=some q→k≤m→∃ r,zst s k=some r∧r.1=q.1.take k
 | 0,q,h,hk=>by
  have:k=0:=by omega
  subst this
  exact ⟨q,h,by cases h; rfl⟩
 | m+1,q,h,hk=>by
  by_cases e:k=m+1
  ·
   subst e
   exact ⟨q,h,by rw [List.take_of_length_le (by rw [(zst_at h).1]; exact Nat.le_refl _)]⟩
  ·
   obtain ⟨r,T,h1,h2,rfl⟩:=zst_step h
   obtain ⟨r',h3,h4⟩:=zst_less h1 (by omega:k≤m)
   refine ⟨r',h3,?_⟩
   rw [h4]
   show _=(r.1++_).take k
   rw [List.take_append_of_le_length (by rw [(zst_at h1).1]; omega)]
theorem mark_of_loc {s T:ByteArray} (h:locG s=some T):s.data.toList.take 4=[80,75,3,4]:=by
 obtain ⟨h1,h2,_⟩:=hdB_is.1 (loc_some h).1
 simp only [fixB,Bool.and_eq_true,decide_eq_true_eq] at h2
 have h3:30≤s.data.toList.length:=by simpa using h1
 have:=(wd_eq (l:=s.data.toList) (i:=0) (k:=4) (by omega) (by decide)).1 h2.1
 rw [List.drop_zero] at this
 rw [this]; decide +kernel
theorem endB_list (k z p:Nat):(endB k z p).data.toList=[80,75,5,6]++(leS 2 0++(leS 2 0++(leS 2 k++(leS 2 k++(leS 4 z++(leS 4 p++leS 2 0)))))):=by
 simp [endB,strL]
theorem no_mark {c:ByteArray} (k z p:Nat) (hc:c=⟨#[]⟩∨c.data.toList.take 4=[80,75,1,2]):(c++endB k z p).data.toList.take 4≠[80,75,3,4]:=by
 simp only [ByteArray.data_append,Array.toList_append]
 rcases hc with e | e
 ·
  rw [e,endB_list]; simp
 ·
  have:4≤c.data.toList.length:=by
   have:=congrArg List.length e
   rw [List.length_take] at this
   simp at this ⊢; omega
  rw [List.take_append_of_le_length this,e]; decide
theorem end_many {s c:ByteArray} {k z p q:Nat} (h:sub s p=c++endB k z q) (hk:k<65536):22≤s.size∧wd s.data.toList (s.size-12) 2=k:=by
 have h1:s.size-p=c.size+22:=by rw [←sub_size,h,ByteArray.size_append,endB_size]
 refine ⟨by omega,?_⟩
 have h2:s.data.toList=(s.data.toList.take p++(c.data.toList++([80,75,5,6]++(leS 2 0++(leS 2 0++leS 2 k)))))++(leS 2 k++(leS 4 z++(leS 4 q++leS 2 0))):=by
  have:s.data.toList.drop p=(c++endB k z q).data.toList:=by rw [←sub_list,h]
  conv=>lhs; rw [←List.take_append_drop p s.data.toList,this]
  simp only [ByteArray.data_append,Array.toList_append,endB_list,List.append_assoc]
 have h3:(s.data.toList.take p++(c.data.toList++([80,75,5,6]++(leS 2 0++(leS 2 0++leS 2 k))))).length=s.size-12:=by
  simp only [List.length_append,List.length_take,leS_len]
  have e1:s.data.toList.length=s.size:=by simp
  have e2:c.data.toList.length=c.size:=by simp
  rw [e1,e2]
  simp; omega
 rw [h2]
 have:=wd_app (b:=leS 2 k++(leS 4 z++(leS 4 q++leS 2 0))) (i:=0) 2 h3
 rw [Nat.add_zero] at this
 rw [this]
 exact wd_here _ (by omega)
def zipG (s:ByteArray):Option (List En):=
 if 12≤s.size∧wd s.data.toList (s.size-12) 2≤6 then
  (match zst s (wd s.data.toList (s.size-12) 2) with
  | some q=>if zipB q.1=true∧sub s q.2.2=q.2.1++endB (wd s.data.toList (s.size-12) 2) q.2.1.size q.2.2 then some q.1 else none
  | none=>none)
 else none
theorem zipG_some {s:ByteArray} {l:List En} (h:zipG s=some l):∃ m q,zst s m=some q∧l=q.1∧zipB q.1=true∧sub s q.2.2=q.2.1++endB m q.2.1.size q.2.2:=by
 unfold zipG at h
 split at h
 ·
  split at h
  ·
   rename_i q hq
   split at h
   ·
    rename_i h2
    cases h
    exact ⟨_,q,hq,rfl,h2.1,h2.2⟩
   ·
    cases h
  ·
   cases h
 ·
  cases h
theorem zipG_yes {s:ByteArray} {m:Nat} {q:List En×ByteArray×Nat} (h:zst s m=some q) (hz:zipB q.1=true) (he:sub s q.2.2=q.2.1++endB m q.2.1.size q.2.2):zipG s=some q.1:=by
 have h6:=(zip_all hz).2
 have hl:=(zst_at h).1
 obtain ⟨e1,e2⟩:=end_many he (by omega)
 unfold zipG
 rw [if_pos ⟨by omega,by omega⟩,e2,h]
 simp only
 rw [if_pos ⟨hz,he⟩]
theorem zipG_many {s:ByteArray} {k m:Nat} {q r:List En×ByteArray×Nat} (hk:zst s k=some q) (hm:zst s m=some r) (he:sub s r.2.2=r.2.1++endB m r.2.1.size r.2.2):k≤m:=by
 rcases Nat.lt_or_ge m k with h | h
 ·
  exfalso
  obtain ⟨x,hx,_⟩:=zst_less hk (by omega:m+1≤k)
  obtain ⟨y,T,h1,h2,_⟩:=zst_step hx
  rw [hm] at h1
  cases h1
  have:=mark_of_loc h2
  rw [he] at this
  exact no_mark _ _ _ (zst_at hm).2.2.2.1 this
 ·
  exact h
theorem zipG_stop {s:ByteArray} {k:Nat} {q:List En×ByteArray×Nat} (hk:zst s k=some q) (hz:zipB q.1=true) (hn:(sub s q.2.2).data.toList.take 4≠[80,75,3,4]) :
  zipG s=if sub s q.2.2=q.2.1++endB k q.2.1.size q.2.2 then some q.1 else none:=by
 split
 ·
  rename_i he; exact zipG_yes hk hz he
 ·
  rename_i he
  rcases h:zipG s with _ | l
  ·
   rfl
  ·
   exfalso
   obtain ⟨m,r,h1,h2,h3,h4⟩:=zipG_some h
   have hle:=zipG_many hk h1 h4
   by_cases e:k=m
   ·
    subst e
    rw [hk] at h1
    cases h1
    exact he h4
   ·
    obtain ⟨x,hx,_⟩:=zst_less h1 (by omega:k+1≤m)
    obtain ⟨y,T,y1,y2,_⟩:=zst_step hx
    rw [hk] at y1
    cases y1
    exact hn (mark_of_loc y2)
theorem zipG_bad {s:ByteArray} {k:Nat} {q:List En×ByteArray×Nat} (hk:zst s k=some q) (hm:(sub s q.2.2).data.toList.take 4=[80,75,3,4]) (hT:∀ T,locG (sub s q.2.2)=some T→zipB (q.1++[enO (sub s q.2.2) T])=false):zipG s=none:=by
 rcases h:zipG s with _ | l
 ·
  rfl
 ·
  exfalso
  obtain ⟨m,r,h1,h2,h3,h4⟩:=zipG_some h
  have hle:=zipG_many hk h1 h4
  by_cases e:k=m
  ·
   subst e
   rw [hk] at h1
   cases h1
   rw [h4] at hm
   exact no_mark _ _ _ (zst_at hk).2.2.2.1 hm
  ·
   obtain ⟨x,hx,hx2⟩:=zst_less h1 (by omega:k+1≤m)
   obtain ⟨y,T,y1,y2,y3⟩:=zst_step hx
   rw [hk] at y1
   cases y1
   have h5:=hT T y2
   have h6:zipB (r.1.take (k+1))=true:=by
    rw [zip_codes] at h3 ⊢
    intro i hi
    have hi2:i<k+1∧i<r.1.length:=by rw [List.length_take] at hi; omega
    have:=h3 i hi2.2
    unfold codeC at this ⊢
    rw [take_getD r.1 (k+1) i hi2.1,List.take_take,Nat.min_eq_left (by omega)]
    exact this
   rw [←hx2,y3] at h6
   rw [h6] at h5
   cases h5
theorem told_list {v:List UInt8} {n:Nat} (h:30≤v.length) (hf:fixB v=true) (hn:n=wd v 26 2):(toldB (wd v 8 2) (wd v 10 4) (wd v 14 4) (wd v 18 4) (wd v 22 4) n).data.toList=(v.drop 4).take 26:=by
 have st:∀ i k m,(v.drop i).take (k+m)=(v.drop i).take k++(v.drop (i+k)).take m:=fun i k m=>by rw [List.take_add,List.drop_drop]
 simp only [fixB,Bool.and_eq_true,decide_eq_true_eq] at hf
 obtain ⟨_,h1,h2,h3⟩:=hf
 have e1:=(wd_eq (l:=v) (i:=4) (k:=2) (by omega) (by decide)).1 h1
 have e2:=(wd_eq (l:=v) (i:=6) (k:=2) (by omega) (by decide)).1 h2
 have e3:=(wd_eq (l:=v) (i:=28) (k:=2) (by omega) (by decide)).1 h3
 have e:(toldB (wd v 8 2) (wd v 10 4) (wd v 14 4) (wd v 18 4) (wd v 22 4) n).data.toList=leS 2 20++(leS 2 0++(leS 2 (wd v 8 2)++(leS 4 (wd v 10 4)++(leS 4 (wd v 14 4)++(leS 4 (wd v 18 4)++(leS 4 (wd v 22 4)++(leS 2 n++leS 2 0))))))):=by
  unfold toldB strL
  simp
 rw [e,hn,←e1,←e2,wd_leS (i:=8) (k:=2) (by omega),wd_leS (i:=10) (k:=4) (by omega),wd_leS (i:=14) (k:=4) (by omega),wd_leS (i:=18) (k:=4) (by omega),wd_leS (i:=22) (k:=4) (by omega),wd_leS (i:=26) (k:=2) (by omega)]
 conv=>lhs; rhs; rhs; rhs; rhs; rhs; rhs; rhs; rhs; rw [e2,←e3]
 rw [←st 26 2 2,←st 22 4 _,←st 18 4 _,←st 14 4 _,←st 10 4 _,←st 8 2 _,←st 6 2 _,←st 4 2 _]
def l7hP (u v:List UInt8) (own:Nat):Prop:=30≤u.length∧46+wd u 28 2≤u.length∧30+wd u 28 2≤v.length∧((u.drop 6).take 26=(v.drop 4).take 26∧(u.drop 46).take (wd u 28 2)=(v.drop 30).take (wd u 28 2))∧(u.take 6=leS 4 33639248++leS 2 20∧(u.drop 32).take 14=List.replicate 10 0++leS 4 own)
theorem ctO_list {x:ByteArray} (own:Nat) (h:hdB x=true):(ctO x own).data.toList=(leS 4 33639248++leS 2 20)++((x.data.toList.drop 4).take 26++((List.replicate 10 0++leS 4 own)++(x.data.toList.drop 30).take (wd x.data.toList 26 2))):=by
 obtain ⟨h1,h2,h3⟩:=hdB_is.1 h
 have h4:30≤x.data.toList.length:=by simpa using h1
 have e:=told_list h4 h2 (nmB_size (s:=x) (by omega))
 have e0:leS 4 33639248=[80,75,1,2]:=by decide +kernel
 rw [e0,←e,←nmB_list]
 unfold ctO centB strL
 simp [List.replicate]
theorem name_same {u v:List UInt8} (h:(u.drop 6).take 26=(v.drop 4).take 26):wd u 28 2=wd v 26 2:=by
 have e1:((u.drop 6).take 26).drop 22=(u.drop 28).take 4:=by rw [List.drop_take,List.drop_drop]
 have e2:((v.drop 4).take 26).drop 22=(v.drop 26).take 4:=by rw [List.drop_take,List.drop_drop]
 have e3:(u.drop 28).take 4=(v.drop 26).take 4:=by rw [←e1,←e2,h]
 have e4:(u.drop 28).take 2=(v.drop 26).take 2:=by
  have:=congrArg (List.take 2) e3
  rwa [List.take_take,List.take_take] at this
 unfold wd; rw [e4]
theorem l7h_iff {u:List UInt8} {x:ByteArray} (own:Nat) (h:hdB x=true):l7hP u x.data.toList own↔u.take (46+wd x.data.toList 26 2)=(ctO x own).data.toList:=by
 obtain ⟨h1,h2,h3⟩:=hdB_is.1 h
 have h4:30+wd x.data.toList 26 2≤x.data.toList.length:=by
  have:x.data.toList.length=x.size:=by simp
  omega
 have st:∀ i k m,(u.drop i).take (k+m)=(u.drop i).take k++(u.drop (i+k)).take m:=fun i k m=>by rw [List.take_add,List.drop_drop]
 have eu:∀ n,u.take (46+n)=u.take 6++((u.drop 6).take 26++((u.drop 32).take 14++(u.drop 46).take n)):=fun n=>by
  rw [←st 32 14 n,←st 6 26 _]
  have:=st 0 6 (26+(14+n))
  rw [List.drop_zero,Nat.zero_add] at this
  rw [←this]
  congr 1; omega
 rw [ctO_list own h]
 have l1:(leS 4 33639248++leS 2 20).length=6:=by simp [leS_len]
 have l2:((x.data.toList.drop 4).take 26).length=26:=part_len (by omega)
 have l3:(List.replicate 10 (0:UInt8)++leS 4 own).length=14:=by simp [leS_len]
 have l4:((x.data.toList.drop 30).take (wd x.data.toList 26 2)).length=wd x.data.toList 26 2:=part_len h4
 constructor
 ·
  rintro ⟨c0,c1,c2,⟨s1,s2⟩,r1,r2⟩
  have hn:=name_same s1
  rw [hn] at s2
  rw [eu,r1,s1,r2,s2]
 ·
  intro e
  have hl:=congrArg List.length e
  have m1:=l1
  have m3:=l3
  simp only [List.length_append] at hl m1 m3
  rw [List.length_take,l2,l4] at hl
  have hu:46+wd x.data.toList 26 2≤u.length:=by omega
  rw [eu] at e
  obtain ⟨r1,e⟩:=List.append_inj e (by rw [l1,List.length_take]; omega)
  obtain ⟨s1,e⟩:=List.append_inj e (by rw [l2,List.length_take,List.length_drop]; omega)
  obtain ⟨r2,s2⟩:=List.append_inj e (by rw [l3,List.length_take,List.length_drop]; omega)
  have hn:=name_same s1
  exact ⟨by omega,by omega,by rw [hn]; exact h4,⟨s1,by rw [hn]; exact s2⟩,r1,r2⟩
theorem zst_pre {s:ByteArray} {k:Nat} {r:List En×ByteArray×Nat} (hk:zst s k=some r):∀ {m:Nat} {q:List En×ByteArray×Nat},zst s m=some q→k≤m→∃ x,q.2.1.data.toList=r.2.1.data.toList++x
 | 0,q,h,hkm=>by
  have:k=0:=by omega
  subst this
  rw [hk] at h; cases h
  exact ⟨[],by simp⟩
 | m+1,q,h,hkm=>by
  by_cases e:k=m+1
  ·
   subst e
   rw [hk] at h; cases h
   exact ⟨[],by simp⟩
  ·
   obtain ⟨y,T,h1,h2,rfl⟩:=zst_step h
   obtain ⟨x,hx⟩:=zst_pre hk h1 (by omega)
   exact ⟨x++(ctO (sub s y.2.2) y.2.2).data.toList,by
    show (y.2.1++ctO (sub s y.2.2) y.2.2).data.toList=_
    simp only [ByteArray.data_append,Array.toList_append]
    rw [hx,List.append_assoc]⟩
def preB (s c:ByteArray) (A:Nat):Prop:=(s.data.toList.drop A).take c.size=c.data.toList
theorem pre_step {s:ByteArray} {A:Nat} {r:List En×ByteArray×Nat} {T:ByteArray} (hT:locG (sub s r.2.2)=some T) (hp:preB s r.2.1 A) :
  l7hP (s.data.toList.drop (A+r.2.1.size)) (s.data.toList.drop r.2.2) r.2.2↔preB s (r.2.1++ctO (sub s r.2.2) r.2.2) A:=by
 have hh:=(loc_some hT).1
 have hs:(ctO (sub s r.2.2) r.2.2).size=46+wd (sub s r.2.2).data.toList 26 2:=by
  have:(ctO (sub s r.2.2) r.2.2).size=46+(nmB (sub s r.2.2)).size:=centB_size _ _ _ _ _ _ _
  rw [this,nmB_size (by have:=(hdB_is.1 hh).2.2; omega)]
 have:=l7h_iff (u:=s.data.toList.drop (A+r.2.1.size)) r.2.2 hh
 rw [sub_list] at this
 rw [this]
 unfold preB
 have st:(s.data.toList.drop A).take (r.2.1.size+(46+wd (s.data.toList.drop r.2.2) 26 2))=(s.data.toList.drop A).take r.2.1.size++(s.data.toList.drop (A+r.2.1.size)).take (46+wd (s.data.toList.drop r.2.2) 26 2):=by rw [List.take_add,List.drop_drop]
 rw [sub_list] at hs
 rw [ByteArray.size_append,hs,st]
 unfold preB at hp
 simp only [ByteArray.data_append,Array.toList_append]
 constructor
 ·
  intro e; rw [hp,e]
 ·
  intro e
  rw [hp] at e
  exact List.append_cancel_left e
theorem zipG_def {s:ByteArray} {m:Nat} (h12:12≤s.size) (hm:wd s.data.toList (s.size-12) 2=m) (h6:m≤6):zipG s=match zst s m with
  | some q=>if zipB q.1=true∧sub s q.2.2=q.2.1++endB m q.2.1.size q.2.2 then some q.1 else none
  | none=>none:=by
 unfold zipG
 (rw [if_pos ⟨h12,by omega⟩,hm]) <;> (rcases zst s m with _ | q <;> rfl)
theorem zipG_few {s:ByteArray} (h:¬ (12≤s.size∧wd s.data.toList (s.size-12) 2≤6)):zipG s=none:=if_neg h
theorem zipG_head {s:ByteArray} {m i:Nat} {q r:List En×ByteArray×Nat} {T:ByteArray} (h12:12≤s.size) (hm:wd s.data.toList (s.size-12) 2=m) (h6:m≤6) (hq:zst s m=some q) (hi:i<m) (hr:zst s i=some r) (hT:locG (sub s r.2.2)=some T) (hp:preB s r.2.1 q.2.2)
  (hn:¬ l7hP (s.data.toList.drop (q.2.2+r.2.1.size)) (s.data.toList.drop r.2.2) r.2.2):zipG s=none:=by
 rw [zipG_def h12 hm h6,hq]
 simp only
 rw [if_neg]
 rintro ⟨_,he⟩
 apply hn
 rw [pre_step hT hp]
 obtain ⟨x,hx⟩:=zst_pre (zst_yes hr hT) hq (by omega)
 have h1:s.data.toList.drop q.2.2=q.2.1.data.toList++(endB m q.2.1.size q.2.2).data.toList:=by
  rw [←sub_list,he]; simp
 unfold preB
 rw [h1,hx,List.append_assoc]
 simp only
 rw [List.take_append_of_le_length (by simp),List.take_of_length_le (by simp)]
theorem zipG_end {s:ByteArray} {m:Nat} {q:List En×ByteArray×Nat} (h12:12≤s.size) (hm:wd s.data.toList (s.size-12) 2=m) (h6:m≤6) (hq:zst s m=some q) (hz:zipB q.1=true) (hp:preB s q.2.1 q.2.2) :
  zipG s=if sub s (q.2.2+q.2.1.size)=endB m q.2.1.size q.2.2 then some q.1 else none:=by
 rw [zipG_def h12 hm h6,hq]
 simp only
 have:(zipB q.1=true∧sub s q.2.2=q.2.1++endB m q.2.1.size q.2.2)↔sub s (q.2.2+q.2.1.size)=endB m q.2.1.size q.2.2:=by
  have e1:s.data.toList.drop q.2.2=q.2.1.data.toList++s.data.toList.drop (q.2.2+q.2.1.size):=by
   conv=>lhs; rw [←List.take_append_drop q.2.1.size (s.data.toList.drop q.2.2)]
   rw [List.drop_drop]
   unfold preB at hp
   rw [hp]
  constructor
  ·
   rintro ⟨_,he⟩
   apply ba_of_list
   have e2:=congrArg (fun x:ByteArray=>x.data.toList) he
   simp only [sub_list,ByteArray.data_append,Array.toList_append] at e2
   rw [e1] at e2
   rw [sub_list]
   exact List.append_cancel_left e2
  ·
   intro he
   refine ⟨hz,ba_of_list ?_⟩
   rw [sub_list,e1]
   simp only [ByteArray.data_append,Array.toList_append]
   rw [←he,sub_list]
 by_cases hc:sub s (q.2.2+q.2.1.size)=endB m q.2.1.size q.2.2
 ·
  rw [if_pos (this.2 hc),if_pos hc]
 ·
  rw [if_neg (fun h=>hc (this.1 h)),if_neg hc]
end Go.Proofs.YtkdlcomfpffhhaaGreatDoor
namespace Go.Proofs.YtkdlcomfpffhhaaGreatDoor
open Go.RowKit Corb
set_option maxRecDepth 100000
theorem rd_yes {x n t:ByteArray} {y mo d h mi c k:Int} (hv:locV x = .tuple #[.agg #[.string n,.int .i64 y,.int .i64 mo,.int .i64 d,.int .i64 h,.int .i64 mi,.int .i64 c,.string t],.int .i64 k,.bool true]) :
  ∃ T,locG x=some T∧enO x T=⟨n,y,mo,d,h,mi,c,t⟩∧k=((locN x:Nat):Int):=by
 unfold locV at hv
 rcases hG:locG x with _ | T
 ·
  rw [hG] at hv
  simp at hv
 ·
  rw [hG] at hv
  simp only [locE,Value.tuple.injEq,Array.mk.injEq,List.cons.injEq,Value.agg.injEq,Value.string.injEq,Value.int.injEq,true_and,and_true] at hv
  obtain ⟨⟨e0,e1,e2,e3,e4,e5,e6,e7⟩,e8⟩:=hv
  refine ⟨T,rfl,?_,?_⟩
  ·
   unfold enO
   rw [e0,e1,e2,e3,e4,e5,e6,e7]
  ·
   rw [←e8]; rfl
theorem rd_no {x:ByteArray} (hv:locV x = .tuple #[noE,.int .i64 0,.bool false]):locG x=none:=by
 unfold locV at hv
 rcases hG:locG x with _ | T
 ·
  rfl
 ·
  rw [hG] at hv
  simp at hv
theorem elit (w:World) (base:Nat) (hb:base≤w.heap.size):EOwn (w.alloc (.cells #[] 32)) base (.slice (some ⟨w.heap.size,0,none⟩) 0 0) []:=World.ownsRow_lit w #[] 0 hb (by unfold maxLen; omega) rfl
set_option maxHeartbeats 6400000 in
theorem l7Get_any (s:ByteArray) (m:Nat) (w:World) (hs:s.size≤1048576) (hm:m≤6) :
  Calls Tryz.prog 69 #[.string s,.int .i64 (m:Nat)] w fun e w'=>(∃ (v:Value) (p:Nat) (ok:Bool),e = .returned (.tuple #[v,.int .i64 (p:Nat),.bool ok])∧(ok=true→∃ q,zst s m=some q∧p=q.2.2∧EOwn w' w.heap.size v q.1)∧(ok=false→zst s m=none))∧Below w.heap.size w w':=by
 have hmI:(m:Int)≤6:=by omega
 have hsI:(s.size:Int)≤1048576:=by omega
 have HS:=hide hs
 have Hm:=hide hm
 have hq0:Hid (EOwn (w.alloc (.cells #[] 32)) w.heap.size (.slice (some ⟨w.heap.size,0,none⟩) 0 0) []):=elit _ _ (Nat.le_refl _)
 have hb0:Hid (Below w.heap.size w (w.alloc (.cells #[] 32))):=(Below.refl _ _).alloc (Nat.le_refl _) _
 obtain ⟨i0,hi,hz0,hz1,hz2⟩:=info_parts Tryz.infoEnt
 clear hs hm
 go_enter Tryz.func69,Tryz.ntmps69
 go_wp2_with fail
 go_loopw [7,8,9,10,11,12] (fun v a i _ _ _ wr=>∃ (k:Nat) (q:List En×ByteArray×Nat),k≤m∧i = .int .i64 k∧zst s k=some q∧a = .int .i64 (q.2.2:Nat)∧EOwn wr w.heap.size v q.1∧Below w.heap.size w wr) (fun _ _ i _ _ _ _=>m-(intOf i).toNat)
 case atStart=>exact ⟨0,([],⟨#[]⟩,0),Nat.zero_le _,rfl,rfl,rfl,unhide hq0,unhide hb0⟩
 case round=>
  obtain ⟨k,q,hk,rfl,hz,rfl,hq,hbel⟩:=hrel
  clear hq0 hb0
  by_cases hlt:k<m
  ·
   have hzat:=zst_at hz
   have hpI:(q.2.2:Int)≤(s.size:Int):=by have:=hzat.2.1; omega
   have HL:=hide hzat.1
   have hss:(sub s q.2.2).size≤1048576:=by rw [sub_size]; have:=unhide HS; omega
   have HC:=hide (fun W=>l6Read_any (sub s q.2.2) W hss)
   have HQ:=hide hq
   have HBel:=hide hbel
   have HK:=hide hk
   have HZ:=hide hz
   clear hss hzat hq hbel hk hz
   go_wp2_with fail
   refine (unhide HC wr).mono ?_
   rintro e x1 ⟨⟨n,y,mo,d,h,mi,c,t,kk,ok,rfl,hv⟩,hb1⟩
   have HB1:=hide (bnext (unhide HBel) hb1)
   have hA:Hid (Below x1.heap.size x1 (x1.alloc (.cells #[.string n,.int .i64 y,.int .i64 mo,.int .i64 d,.int .i64 h,.int .i64 mi,.int .i64 c,.string t] 32))):=(Below.refl _ _).alloc (Nat.le_refl _) _
   cases ok
   ·
    have HNo:=hide (zst_none (zst_no (unhide HZ) (rd_no hv)) m (by omega))
    have HB2:=hide (bnext (unhide HB1) (unhide hA))
    clear hv hb1 HC HQ HBel hA
    go_wp2
    go_ret3
    exact ⟨⟨_,_,false,rfl,(fun h=>by cases h),fun _=>unhide HNo⟩,unhide HB2⟩
   ·
    obtain ⟨T,hT,hE,rfl⟩:=rd_yes hv
    have HZ2:=zst_yes (unhide HZ) hT
    have hf:=loc_fits hT
    rw [sub_size] at hf
    rw [hE] at HZ2
    have HZ3:=hide HZ2
    have hat:(q.2.2:Int)+((locN (sub s q.2.2):Nat):Int)≤(s.size:Int):=by omega
    have hW:=bnext hb1 (unhide hA)
    have hq1:=GOwn.own (unhide HL) ((unhide HQ).later hW (Nat.le_refl _))
    have hbel1:=bnext (unhide HBel) hW
    have hbs1:=hbel1.size
    have hlen1:Hid (k+1≤maxLen∧(k+1)*80≤140737488355328):=by
     show _∧_
     have:=unhide Hm
     unfold maxLen
     omega
    obtain ⟨W1,hW1⟩:∃ x,x1.alloc (.cells #[.string n,.int .i64 y,.int .i64 mo,.int .i64 d,.int .i64 h,.int .i64 mi,.int .i64 c,.string t] 32)=x:=⟨_,rfl⟩
    have hP:=hide (blk_alloc x1 #[.string n,.int .i64 y,.int .i64 mo,.int .i64 d,.int .i64 h,.int .i64 mi,.int .i64 c,.string t] 32)
    rw [hW1] at hq1 hbel1 hbs1 hP
    have pA:=(unhide hP).cells (n:=8) rfl
    clear hv hT hE hf HZ2 hb1 HC HQ HBel hA hW HB1
    go_wp2_with (at_builtin; refine wpList_append_own _ rfl _ _ 33 rfl w.heap.size 32 i0 (.agg #[.string ⟨#[]⟩,.int .i64 0,.int .i64 0,.int .i64 0,.int .i64 0,.int .i64 0,.int .i64 0,.string ⟨#[]⟩]) 8 80 Tryz.underlying33 hi hz0 hz1 hz2 rfl (by decide) _ _ _ rfl (World.ownsRow.alloc hq1 _) ⟨W1.heap.size,0,none⟩ 1 1 (encE ⟨n,y,mo,d,h,mi,c,t⟩) rfl rfl (new_cells W1 _ _) (encE_one _) (unhide hlen1).1 (unhide hlen1).2 (size_alloc_le hbs1 _) ?_; intro v' x2 hown hgrow hnil; clear hnil)
    have hb2:=grown_step (v:=u7) hgrow hq1 (Nat.le_refl _) hbs1 hbel1
    have hq2:EOwn x2 w.heap.size v' (q.1++[⟨n,y,mo,d,h,mi,c,t⟩]):=GOwn.snoc (unhide HL) hown
    have HQ2:=hide hq2
    have HB2:=hide hb2
    clear hown hgrow hq1 hq2 hb2 pA hbel1 hbs1 hP hW1
    go_wp2
    go_roundw
    case rel=>exact ⟨k+1,_,by have:=unhide HK; omega,by go_num,unhide HZ3,by go_num,unhide HQ2,unhide HB2⟩
    case measure=>simp [intOf]; omega
  ·
   have hkm:k=m:=by omega
   subst hkm
   have HQ:=hide hq
   have HBel:=hide hbel
   clear hq hbel
   go_wp2
   go_ret3
   exact ⟨⟨_,_,true,rfl,fun _=>⟨q,hz,rfl,unhide HQ⟩,(fun h=>by cases h)⟩,unhide HBel⟩
theorem wd_drop (l:List UInt8) (i j k:Nat):wd (l.drop i) j k=wd l (i+j) k:=by unfold wd; rw [List.drop_drop]
theorem ext_eq {s:ByteArray} {a b k:Nat} {x:ByteArray} {c d:Nat} (h1:b=a+k) (h2:d=c+k):(s.extract a b).toList=(x.extract c d).toList↔(s.data.toList.drop a).take k=(x.data.toList.drop c).take k:=by
 rw [list_of_ba,ext_list,ext_list,h1,h2,Nat.add_sub_cancel_left,Nat.add_sub_cancel_left]
theorem ext_is {s y:ByteArray} {a b k:Nat} (h1:b=a+k):(s.extract a b).toList=y.toList↔(s.data.toList.drop a).take k=y.data.toList:=by
 rw [list_of_ba,ext_list,h1,Nat.add_sub_cancel_left]
theorem zst_small {s:ByteArray} {k:Nat} {q:List En×ByteArray×Nat} (h:zst s k=some q):∀ i,i<k→(q.1.getD i default).n.size≤1048576∧((q.1.getD i default).t.size:Int)≤9223372036854775807:=by
 intro i hi
 obtain ⟨h1,_,h3,_⟩:=zst_at h
 have hm:q.1.getD i default∈q.1:=by
  rw [List.getD,List.getElem?_eq_getElem (by omega:i<q.1.length)]
  exact List.getElem_mem _
 obtain ⟨f1,f2,_⟩:=ent_facts (n:=(q.1.getD i default).n) (t:=(q.1.getD i default).t) (h3 _ hm)
 exact ⟨by omega,by omega⟩
theorem ct_size {s:ByteArray} {p:Nat} {u:List UInt8} (h:l7hP u (s.data.toList.drop p) p) (hd:hdB (sub s p)=true):46+wd u 28 2=(ctO (sub s p) p).size:=by
 have e:=name_same h.2.2.2.1.1
 have h1:(ctO (sub s p) p).size=46+(nmB (sub s p)).size:=centB_size _ _ _ _ _ _ _
 rw [h1,nmB_size (by have:=(hdB_is.1 hd).2.2; omega),sub_list,e]
theorem below_drewN {B:Nat} {a w:World} (h:Below B a w) (n:Nat):Below B a (w.drewN n):=⟨h.os,h.tape,h.output,h.size,h.block⟩
set_option maxHeartbeats 6400000 in
theorem l7Head_any (s:ByteArray) (hd own:Nat) (w:World) (hs:s.size≤1048576) (h1:hd≤2000000) (h2:own≤2000000) :
  Calls Tryz.prog 71 #[.string s,.int .i64 (hd:Nat),.int .i64 (own:Nat)] w fun e w'=>(∃ (k:Nat) (b:Bool),e = .returned (.tuple #[.int .i64 (k:Nat),.bool b])∧(b=true↔l7hP (s.data.toList.drop hd) (s.data.toList.drop own) own)∧(b=true→k=46+wd (s.data.toList.drop hd) 28 2))∧Below w.heap.size w w':=by
 have hmix:Tryz.prog.follows .mixedOrders=true:=by kernel_rfl
 have hsI:(s.size:Int)≤1048576:=by omega
 have h1I:(hd:Int)≤2000000:=by omega
 have h2I:(own:Int)≤2000000:=by omega
 have hz:s.data.toList.length=s.size:=by simp
 have C:Hid (∀ W,Calls Tryz.prog 68 #[.string s,.int .i64 ((hd:Int)+28),.int .i64 2] W fun e w'=>e = .returned (.int .i64 (numI s (hd+28) 2))∧Below W.heap.size W w'):=fun W=>by
  have:=l6Num_any s (hd+28) 2 W (by omega) (by decide) (by omega)
  rw [show ((hd+28:Nat):Int)=(hd:Int)+28 by omega] at this
  exact this
 have hwd:=wd_drop s.data.toList hd 28 2
 by_cases hA:hd+30≤s.size
 ·
  rw [numI_yes (by omega)] at C
  have hNM:=wd_two s.data.toList (hd+28)
  rw [hwd]
  have HP:Hid (l7hP (s.data.toList.drop hd) (s.data.toList.drop own) own↔(hd+(46+wd s.data.toList (hd+28) 2)≤s.size∧own+30+wd s.data.toList (hd+28) 2≤s.size)∧(((s.data.toList.drop (hd+6)).take 26=(s.data.toList.drop (own+4)).take 26∧(s.data.toList.drop (hd+46)).take (wd s.data.toList (hd+28) 2)=(s.data.toList.drop (own+30)).take (wd s.data.toList (hd+28) 2))∧((s.data.toList.drop hd).take 6=leS 4 33639248++leS 2 20∧(s.data.toList.drop (hd+32)).take 14=List.replicate 10 0++leS 4 own))):=by
   show _↔_
   unfold l7hP
   rw [hwd]
   simp only [List.drop_drop,List.length_drop,hz]
   constructor
   ·
    rintro ⟨a,b,c,d,e⟩
    exact ⟨⟨by omega,by omega⟩,d,e⟩
   ·
    rintro ⟨⟨a,b⟩,d,e⟩
    exact ⟨by omega,by omega,by omega,d,e⟩
  clear hwd hz
  generalize wd s.data.toList (hd+28) 2=NM at *
  have hNI:(NM:Int)<65536:=by omega
  by_cases hB:hd+(46+NM)≤s.size∧own+30+NM≤s.size
  ·
   have HB:=hide hB
   obtain ⟨b1,b2⟩:=hB
   have k1:(hd:Int)+(46+(NM:Int))≤(s.size:Int):=by omega
   have k2:(own:Int)+30+(NM:Int)≤(s.size:Int):=by omega
   have d0:decide ((NM:Int)<0)=false:=decide_eq_false (by omega)
   have d1:decide ((s.size:Int)<(hd:Int)+(46+(NM:Int)))=false:=decide_eq_false (by omega)
   have d2:decide ((s.size:Int)<(own:Int)+30+(NM:Int))=false:=decide_eq_false (by omega)
   have CM:Hid (∀ W,Calls Tryz.prog 103 #[.int .i64 33639248,.int .i64 4] W fun e w'=>e = .returned (.string (strL (leS 4 33639248)))∧Below W.heap.size W w'):=fun W=>l6Bytes_any 33639248 4 W (by omega) (by omega)
   have CV:Hid (∀ W,Calls Tryz.prog 103 #[.int .i64 20,.int .i64 2] W fun e w'=>e = .returned (.string (strL (leS 2 20)))∧Below W.heap.size W w'):=fun W=>l6Bytes_any 20 2 W (by omega) (by omega)
   have C0:Hid (∀ W,Calls Tryz.prog 103 #[.int .i64 0,.int .i64 10] W fun e w'=>e = .returned (.string (strL (leS 10 0)))∧Below W.heap.size W w'):=fun W=>l6Bytes_any 0 10 W (by omega) (by omega)
   have CP:Hid (∀ W,Calls Tryz.prog 103 #[.int .i64 (own:Nat),.int .i64 4] W fun e w'=>e = .returned (.string (strL (leS 4 own)))∧Below W.heap.size W w'):=fun W=>l6Bytes_any own 4 W (by omega) (by omega)
   have E1:Hid ((s.extract (hd+6) (hd+32)).toList=(s.extract (own+4) (own+30)).toList↔(s.data.toList.drop (hd+6)).take 26=(s.data.toList.drop (own+4)).take 26):=ext_eq rfl rfl
   have E2:Hid ((s.extract (hd+46) (hd+(46+NM))).toList=(s.extract (own+30) (own+30+NM)).toList↔(s.data.toList.drop (hd+46)).take NM=(s.data.toList.drop (own+30)).take NM):=ext_eq (by omega) rfl
   have E3:Hid ((s.extract hd (hd+6)).toList=(strL (leS 4 33639248)++strL (leS 2 20)).toList↔(s.data.toList.drop hd).take 6=leS 4 33639248++leS 2 20):=by
    have:=ext_is (s:=s) (y:=strL (leS 4 33639248)++strL (leS 2 20)) (a:=hd) (b:=hd+6) (k:=6) rfl
    rw [show (strL (leS 4 33639248)++strL (leS 2 20)).data.toList=leS 4 33639248++leS 2 20 by simp [strL]] at this
    exact this
   have E4:Hid ((s.extract (hd+32) (hd+46)).toList=(strL (leS 10 0)++strL (leS 4 own)).toList↔(s.data.toList.drop (hd+32)).take 14=List.replicate 10 0++leS 4 own):=by
    have:=ext_is (s:=s) (y:=strL (leS 10 0)++strL (leS 4 own)) (a:=hd+32) (b:=hd+46) (k:=14) rfl
    have e0:leS 10 0=List.replicate 10 0:=by decide +kernel
    rw [show (strL (leS 10 0)++strL (leS 4 own)).data.toList=List.replicate 10 0++leS 4 own by rw [e0]; simp [strL]] at this
    exact this
   have z1:(strL (leS 4 33639248)).size≤10:=by rw [strL_size,leS_len]; omega
   have z2:(strL (leS 2 20)).size≤10:=by rw [strL_size,leS_len]; omega
   have z3:(strL (leS 10 0)).size≤10:=by rw [strL_size,leS_len]; omega
   have z4:(strL (leS 4 own)).size≤10:=by rw [strL_size,leS_len]; omega
   have m1:¬ 9223372036854775807<(strL (leS 4 33639248)).size+(strL (leS 2 20)).size:=by omega
   have m2:¬ 9223372036854775807<(strL (leS 10 0)).size+(strL (leS 4 own)).size:=by omega
   generalize strL (leS 4 33639248)=A1 at *
   generalize strL (leS 2 20)=A2 at *
   generalize strL (leS 10 0)=A3 at *
   generalize strL (leS 4 own)=A4 at *
   rw [←unhide E1,←unhide E2,←unhide E3,←unhide E4] at HP
   obtain ⟨X1,hX1⟩:∃ x,s.extract (hd+6) (hd+32)=x:=⟨_,rfl⟩
   obtain ⟨Y1,hY1⟩:∃ x,s.extract (own+4) (own+30)=x:=⟨_,rfl⟩
   obtain ⟨X2,hX2⟩:∃ x,s.extract (hd+46) (hd+(46+NM))=x:=⟨_,rfl⟩
   obtain ⟨Y2,hY2⟩:∃ x,s.extract (own+30) (own+30+NM)=x:=⟨_,rfl⟩
   obtain ⟨X3,hX3⟩:∃ x,s.extract hd (hd+6)=x:=⟨_,rfl⟩
   obtain ⟨X4,hX4⟩:∃ x,s.extract (hd+32) (hd+46)=x:=⟨_,rfl⟩
   rw [hX1,hY1,hX2,hY2,hX3,hX4] at HP
   obtain ⟨B1,hB1⟩:∃ b,(X1.toList == Y1.toList)=b:=⟨_,rfl⟩
   obtain ⟨B2,hB2⟩:∃ b,(X2.toList == Y2.toList)=b:=⟨_,rfl⟩
   obtain ⟨B3,hB3⟩:∃ b,(X3.toList == (A1++A2).toList)=b:=⟨_,rfl⟩
   obtain ⟨B4,hB4⟩:∃ b,(X4.toList == (A3++A4).toList)=b:=⟨_,rfl⟩
   have HR:Hid (((B1&&B2)&&(B3&&B4))=true↔l7hP (s.data.toList.drop hd) (s.data.toList.drop own) own):=by
    show _↔_
    rw [unhide HP,←hB1,←hB2,←hB3,←hB4]
    simp only [Bool.and_eq_true,beq_iff_eq]
    exact ⟨fun h=>⟨unhide HB,h⟩,fun h=>h.2⟩
   have HX:=hide (And.intro hX1 (And.intro hY1 (And.intro hX2 (And.intro hY2 (And.intro hX3 hX4)))))
   have HBB:=hide (And.intro hB1 (And.intro hB2 (And.intro hB3 hB4)))
   have HM:=hide (And.intro m1 m2)
   clear HP E1 E2 E3 E4 hA h1 h2 hs hNM b1 b2 z1 z2 z3 z4 HB hX1 hX2 hX3 hX4 hY1 hY2 hB1 hB2 hB3 hB4 m1 m2
   have C':=C
   cases B1 <;> cases B2 <;> cases B3
   all_goals
    go_enter Tryz.func71,Tryz.ntmps71
    go_wp2_with fail
    refine (unhide C' _).mono ?_
    rintro e x1 ⟨rfl,hb1⟩
    have HB1:=hide hb1
    clear hb1 C C'
    go_wp2_with fail
    have w1:IntKind.i64.wrap ((hd:Int)+6)=(hd:Int)+6:=by rw [IntKind.wrap_i64]; omega
    have t1:((hd:Int)+6).toNat=hd+6:=by omega
    have l1:0≤(hd:Int)+6:=by omega
    have g1:(hd:Int)+6≤(s.size:Int):=by omega
    have w2:IntKind.i64.wrap ((hd:Int)+32)=(hd:Int)+32:=by rw [IntKind.wrap_i64]; omega
    have t2:((hd:Int)+32).toNat=hd+32:=by omega
    have l2:0≤(hd:Int)+32:=by omega
    have g2:(hd:Int)+32≤(s.size:Int):=by omega
    have w3:IntKind.i64.wrap ((own:Int)+4)=(own:Int)+4:=by rw [IntKind.wrap_i64]; omega
    have t3:((own:Int)+4).toNat=own+4:=by omega
    have l3:0≤(own:Int)+4:=by omega
    have g3:(own:Int)+4≤(s.size:Int):=by omega
    have w4:IntKind.i64.wrap ((own:Int)+30)=(own:Int)+30:=by rw [IntKind.wrap_i64]; omega
    have t4:((own:Int)+30).toNat=own+30:=by omega
    have l4:0≤(own:Int)+30:=by omega
    have g4:(own:Int)+30≤(s.size:Int):=by omega
    have w5:IntKind.i64.wrap ((hd:Int)+46)=(hd:Int)+46:=by rw [IntKind.wrap_i64]; omega
    have t5:((hd:Int)+46).toNat=hd+46:=by omega
    have l5:0≤(hd:Int)+46:=by omega
    have g5:(hd:Int)+46≤(s.size:Int):=by omega
    have w6:IntKind.i64.wrap ((hd:Int)+(46+(NM:Int)))=(hd:Int)+(46+(NM:Int)):=by rw [IntKind.wrap_i64]; omega
    have t6:((hd:Int)+(46+(NM:Int))).toNat=hd+(46+NM):=by omega
    have l6:0≤(hd:Int)+(46+(NM:Int)):=by omega
    have w7:IntKind.i64.wrap ((own:Int)+30+(NM:Int))=(own:Int)+30+(NM:Int):=by rw [IntKind.wrap_i64]; omega
    have t7:((own:Int)+30+(NM:Int)).toNat=own+30+NM:=by omega
    have l7:0≤(own:Int)+30+(NM:Int):=by omega
    have w8:IntKind.i64.wrap ((hd:Int))=(hd:Int):=by rw [IntKind.wrap_i64]; omega
    have t8:((hd:Int)).toNat=hd:=by omega
    have l8:0≤(hd:Int):=by omega
    have o1:(hd:Int)+6≤(hd:Int)+32:=by omega
    have o2:(own:Int)+4≤(own:Int)+30:=by omega
    have o3:(hd:Int)+46≤(hd:Int)+(46+(NM:Int)):=by omega
    have o4:(own:Int)+30≤(own:Int)+30+(NM:Int):=by omega
    have o5:(hd:Int)≤(hd:Int)+6:=by omega
    have o6:(hd:Int)+32≤(hd:Int)+46:=by omega
    obtain ⟨hX1,hY1,hX2,hY2,hX3,hX4⟩:=unhide HX
    obtain ⟨hB1,hB2,hB3,hB4⟩:=unhide HBB
    obtain ⟨m1,m2⟩:=unhide HM
    go_quiet (fail)
    have HBd:Hid (Below w.heap.size w (x1.drewN nq)):=below_drewN (unhide HB1) nq
    clear w3 t3 l3 g3 w4 t4 l4 g4 w6 t6 l6 w7 t7 l7 o1 o2 o3 o4 hX1 hY1 hX2 hY2 hB1 hB2 d0 d1 d2 k1 k2 HX HBB HM
    generalize x1.drewN nq=x2 at *
    go_wp2_with fail
    have q1:=fun d os=>Calls.regrown_of (w:=x2) (d:=d) (os:=os) (unhide CM _)
    have q2:=fun d os=>Calls.regrown_of (w:=x2) (d:=d) (os:=os) (unhide CV _)
    have q3:=fun d os=>Calls.regrown_of (w:=x2) (d:=d) (os:=os) (unhide C0 _)
    have q4:=fun d os=>Calls.regrown_of (w:=x2) (d:=d) (os:=os) (unhide CP _)
    refine wp_region_quiet_below hmix (by kernel_rfl) ?_
    go_big_quiet_step (fail)
    go_big_quiet_step (fail)
    go_big_quiet_step (fail)
    go_big_quiet_step (fail)
    go_big_quiet_step (fail)
    go_big_quiet_step (exact q1 _ _)
    go_big_quiet_step (exact q2 _ _)
    go_big_quiet_step (fail)
    go_big_quiet_step (fail)
    go_big_quiet_step (fail)
    go_big_quiet_step (fail)
    go_big_quiet_step (fail)
    go_big_quiet_step (fail)
    go_big_quiet_step (fail)
    go_big_quiet_step (fail)
    go_big_quiet_step (fail)
    go_big_quiet_step (exact q3 _ _)
    go_big_quiet_step (fail)
    go_big_quiet_step (exact q4 _ _)
    go_big_quiet_step (fail)
    go_big_quiet_step (fail)
    go_big_quiet_step (fail)
    go_big_quiet_step (fail)
    refine wpQuiet_nil ?_
    intro zw hw'
    obtain ⟨⟨dq,osq⟩,hw2⟩:=hw'
    have HZ:=below_regrown x2 dq osq
    rw [←hw2] at HZ
    have T9:=hide (bnext (unhide HBd) HZ)
    clear hw2 HZ q1 q2 q3 q4
    go_wp2
    go_ret2
    exact ⟨⟨46+NM,_,by rw [Int.natCast_add]; rfl,unhide HR,fun _=>rfl⟩,unhide T9⟩
  ·
   have HF:Hid (¬ l7hP (s.data.toList.drop hd) (s.data.toList.drop own) own):=fun h=>hB ((unhide HP).1 h).1
   have HI:Hid (false=true↔l7hP (s.data.toList.drop hd) (s.data.toList.drop own) own):=⟨(fun h=>by cases h),fun h=>absurd h (unhide HF)⟩
   clear HP HF
   by_cases hB1:hd+(46+NM)≤s.size
   ·
    have k1:(hd:Int)+(46+(NM:Int))≤(s.size:Int):=by omega
    have k2:(s.size:Int)<(own:Int)+30+(NM:Int):=by omega
    clear hB hB1 hA h1 h2 hs hNM
    go_enter Tryz.func71,Tryz.ntmps71
    go_wp2_with fail
    refine (unhide C _).mono ?_
    rintro e x1 ⟨rfl,hb1⟩
    have HB1:=hide hb1
    clear hb1 C
    go_wp2
    go_ret2
    exact ⟨⟨0,false,rfl,unhide HI,fun h=>by cases h⟩,unhide HB1⟩
   ·
    have k1:(s.size:Int)<(hd:Int)+(46+(NM:Int)):=by omega
    clear hB hB1 hA h1 h2 hs hNM
    go_enter Tryz.func71,Tryz.ntmps71
    go_wp2_with fail
    refine (unhide C _).mono ?_
    rintro e x1 ⟨rfl,hb1⟩
    have HB1:=hide hb1
    clear hb1 C
    go_wp2
    go_ret2
    exact ⟨⟨0,false,rfl,unhide HI,fun h=>by cases h⟩,unhide HB1⟩
 ·
  rw [numI_no (by omega)] at C
  have HF:Hid (¬ l7hP (s.data.toList.drop hd) (s.data.toList.drop own) own):=fun h=>by
   have:=h.1
   rw [List.length_drop,hz] at this
   omega
  have HI:Hid (false=true↔l7hP (s.data.toList.drop hd) (s.data.toList.drop own) own):=⟨(fun h=>by cases h),fun h=>absurd h (unhide HF)⟩
  clear HF hwd hz
  go_enter Tryz.func71,Tryz.ntmps71
  go_wp2_with fail
  refine (unhide C _).mono ?_
  rintro e x1 ⟨rfl,hb1⟩
  have HB1:=hide hb1
  clear hb1 C
  go_wp2
  go_ret2
  exact ⟨⟨0,false,rfl,unhide HI,fun h=>by cases h⟩,unhide HB1⟩
theorem pre_le {s c:ByteArray} {A:Nat} (h:preB s c A) (hA:A≤s.size):A+c.size≤s.size:=by
 have:=congrArg List.length h
 rw [List.length_take,List.length_drop] at this
 have h1:s.data.toList.length=s.size:=by simp
 have h2:c.data.toList.length=c.size:=by simp
 omega
theorem ba_beq {a b:ByteArray} {c:Bool} (h:(a.toList == b.toList)=c):c=true↔a=b:=by
 rw [←h,beq_iff_eq,list_of_ba]
 exact ⟨fun e=>ba_of_list e,fun e=>by rw [e]⟩
set_option maxHeartbeats 12800000 in
theorem specZipGet_any (s:ByteArray) (w:World) (hs:s.size≤1048576) :
  Calls Tryz.prog 39 #[.string s] w fun e w'=>(∃ v,e = .returned (.tuple #[v,.bool (zipG s).isSome])∧EOwn w' w.heap.size v ((zipG s).getD []))∧Below w.heap.size w w':=by
 have hmix:Tryz.prog.follows .mixedOrders=true:=by kernel_rfl
 have hsI:(s.size:Int)≤1048576:=by omega
 have HNo:Hid (zipG s=none→∀ W,Below w.heap.size w W→(∃ v,Ending.returned (.tuple #[.slice (some ⟨W.heap.size,0,none⟩) 0 0,.bool false]) = .returned (.tuple #[v,.bool (zipG s).isSome])∧EOwn (W.alloc (.cells #[] 32)) w.heap.size v ((zipG s).getD []))∧Below w.heap.size w (W.alloc (.cells #[] 32))):=fun h W hb=>by
  rw [h]
  exact ⟨⟨_,rfl,elit _ _ hb.size⟩,hb.alloc hb.size _⟩
 by_cases h12:12≤s.size
 ·
  have C:Hid (∀ W,Calls Tryz.prog 68 #[.string s,.int .i64 ((s.size:Int)-12),.int .i64 2] W fun e w'=>e = .returned (.int .i64 ((wd s.data.toList (s.size-12) 2:Nat):Int))∧Below W.heap.size W w'):=fun W=>by
   have:=l6Num_any s (s.size-12) 2 W (by omega) (by decide) (by omega)
   rw [show ((s.size-12:Nat):Int)=(s.size:Int)-12 by omega,numI_yes (by omega)] at this
   exact this
  have hNM:=wd_two s.data.toList (s.size-12)
  have HWD:∃ NM,wd s.data.toList (s.size-12) 2=NM:=⟨_,rfl⟩
  obtain ⟨NM,hWD⟩:=HWD
  rw [hWD] at C hNM
  have HW:=hide hWD
  have H12:=hide h12
  clear hWD
  have hNI:(NM:Int)<65536:=by omega
  by_cases h6:NM≤6
  ·
   have h6I:(NM:Int)≤6:=by omega
   have C1:Hid (∀ W,Calls Tryz.prog 58 #[.int .i64 (NM:Nat),.int .i64 0,.int .i64 6] W fun e w'=>e = .returned (.bool true)∧w'=W):=fun W=>by
    have:=l1In_any (NM:Int) 0 6 W
    rw [show inB (NM:Int) 0 6=true by rw [inB_true]; omega] at this
    exact this
   have C2:=hide (fun W=>l7Get_any s NM W hs h6)
   have H6:=hide h6
   have HS:=hide hs
   clear h12 hs hNM
   go_enter Tryz.func39,Tryz.ntmps39
   go_wp2_with fail
   refine (unhide C _).mono ?_
   rintro e x1 ⟨rfl,hb1⟩
   have HB1:=hide hb1
   clear hb1 C
   go_wp2_with fail
   refine (unhide C1 _).mono ?_
   rintro e x2 ⟨rfl,hx2⟩
   subst hx2
   clear C1
   go_wp2_with fail
   refine (unhide C2 _).mono ?_
   rintro e x3 ⟨⟨v,p,ok,rfl,hyes,hno⟩,hb3⟩
   have HB3:=hide (bnext (unhide HB1) hb3)
   cases ok
   ·
    have HN:=hide (unhide HNo (by rw [zipG_def (unhide H12) (unhide HW) (unhide H6),hno rfl]) x3 (unhide HB3))
    clear hyes hno hb3 C2
    go_wp2
    go_ret2
    exact unhide HN
   ·
    obtain ⟨q,hq,rfl,hown⟩:=hyes rfl
    have hzat:=zst_at hq
    obtain ⟨va,vc,rfl,hvc,_⟩:=hown.formN hzat.1
    have HOwn:=hide (hown.mono (base':=w.heap.size) (by have:=(unhide HB1).size; omega))
    have C3:=hide (specZipOk_any va vc q.1 NM hzat.1 x3 (eown_row hzat.1 hown) (by omega) (zst_small hq))
    have HQ:=hide hq
    have hpI:(q.2.2:Int)≤(s.size:Int):=by have:=hzat.2.1; omega
    have hcz:q.2.1.size≤600:=by have:=hzat.2.2.2.2; omega
    clear hyes hno hb3 C2 hown hzat hq
    cases hzb:zipB q.1
    ·
     have HN:=hide (fun W hb=>unhide HNo (by rw [zipG_def (unhide H12) (unhide HW) (unhide H6),unhide HQ]; simp [hzb]) W hb)
     rw [hzb] at C3
     go_wp2_with fail
     refine (unhide C3).mono ?_
     rintro e x4 ⟨rfl,hb4⟩
     have HB4:=hide (bnext (unhide HB3) hb4)
     clear hb4 C3
     go_wp2
     go_ret2
     exact unhide HN _ (unhide HB4)
    ·
     rw [hzb] at C3
     have HZB:=hide hzb
     clear hzb
     go_wp2_with fail
     refine (unhide C3).mono ?_
     rintro e x4 ⟨rfl,hb4⟩
     have HB4:=hide (bnext (unhide HB3) hb4)
     have HO4:=hide ((unhide HOwn).later hb4 (Nat.le_refl _))
     clear hb4 C3 HOwn HB3
     have CHd:=hide (fun hd own (W:World) (h1:hd≤2000000) (h2:own≤2000000)=>l7Head_any s hd own W (unhide HS) h1 h2)
     have CRd:=hide (fun p W=>l6Read_any (sub s p) W (by rw [sub_size]; have:=unhide HS; omega))
     have HE:Hid (∀ p,s.extract p s.size=sub s p):=fun _=>rfl
     go_wp2_with fail
     go_loopw [8,9,10,11,12,13,14,15] (fun h o i _ _ _ _ _ wr=>∃ (k:Nat) (r:List En×ByteArray×Nat),k≤NM∧i = .int .i64 k∧zst s k=some r∧h = .int .i64 ((q.2.2:Nat)+(r.2.1.size:Nat))∧o = .int .i64 (r.2.2:Nat)∧preB s r.2.1 q.2.2∧EOwn wr w.heap.size (.slice va NM vc) q.1∧Below w.heap.size w wr) (fun _ _ i _ _ _ _ _ _=>NM-(intOf i).toNat)
     case atStart=>exact ⟨0,([],⟨#[]⟩,0),Nat.zero_le _,rfl,rfl,by show _=Value.int .i64 ((q.2.2:Nat)+((0:Nat):Int)); simp,rfl,rfl,unhide HO4,unhide HB4⟩
     case round=>
      obtain ⟨k,r,hk,rfl,hr,rfl,rfl,hpre,hown,hbel⟩:=hrel
      have hrat:=zst_at hr
      have hrl:r.2.1.size≤600:=by have:=hrat.2.2.2.2; omega
      have hrI:(r.2.1.size:Int)≤600:=by omega
      have hoI:(r.2.2:Int)≤(s.size:Int):=by have:=hrat.2.1; omega
      have HR:=hide hr
      have HPre:=hide hpre
      have HOwn:=hide hown
      have HBel:=hide hbel
      have HK:=hide hk
      clear hrat hr hpre hown hbel HO4 HB4
      by_cases hlt:k<NM
      ·
       obtain ⟨y,hy,_⟩:=zst_less (unhide HQ) (by omega:k+1≤NM)
       obtain ⟨r',T,h1,hT,_⟩:=zst_step hy
       rw [unhide HR] at h1
       cases h1
       have HT:=hide hT
       have CH:=hide (fun W=>unhide CHd (q.2.2+r.2.1.size) r.2.2 W (by omega) (by omega))
       rw [show ((q.2.2+r.2.1.size:Nat):Int)=(q.2.2:Nat)+(r.2.1.size:Nat) by omega] at CH
       clear hy hT CHd
       go_wp2_with fail
       refine (unhide CH _).mono ?_
       rintro e x5 ⟨⟨kk,b,rfl,hb,hkk⟩,hb5⟩
       have HB5:=hide (bnext (unhide HBel) hb5)
       have HO5:=hide ((unhide HOwn).later hb5 (Nat.le_refl _))
       clear hb5 CH HOwn HBel
       cases b
       ·
        have HN:=hide (unhide HNo (zipG_head (unhide H12) (unhide HW) (unhide H6) (unhide HQ) hlt (unhide HR) (unhide HT) (unhide HPre) (fun h=>by have:=hb.2 h; cases this)) x5 (unhide HB5))
        clear hb hkk
        go_wp2
        go_ret2
        exact unhide HN
       ·
        have hl:=hb.1 rfl
        have e1:=hkk rfl
        rw [ct_size hl (loc_some (unhide HT)).1] at e1
        have HP2:=hide ((pre_step (unhide HT) (unhide HPre)).1 hl)
        have HZ2:=hide (zst_yes (unhide HR) (unhide HT))
        have hkz:kk≤2000:=by
         have h7:=(zst_at (unhide HZ2)).2.2.2.2
         simp only [ByteArray.size_append] at h7
         omega
        have HKK:=hide e1
        clear hb hkk hl e1
        go_wp2_with fail
        refine (unhide CRd r.2.2 _).mono ?_
        rintro e x6 ⟨⟨n,yy,mo,d,h,mi,c,t,kx,ok,rfl,hv⟩,hb6⟩
        have HB6:=hide (bnext (unhide HB5) hb6)
        have HO6:=hide ((unhide HO5).later hb6 (Nat.le_refl _))
        have hA:=(Below.refl x6.heap.size x6).alloc (Nat.le_refl _) (.cells #[.string n,.int .i64 yy,.int .i64 mo,.int .i64 d,.int .i64 h,.int .i64 mi,.int .i64 c,.string t] 32)
        have HB7:=hide (bnext (unhide HB6) hA)
        have HO7:=hide ((unhide HO6).later hA (Nat.le_refl _))
        cases ok
        ·
         have:=rd_no hv
         rw [unhide HT] at this
         cases this
        ·
         obtain ⟨T2,hT2,_,rfl⟩:=rd_yes hv
         have hf:=loc_fits hT2
         rw [sub_size] at hf
         have hfI:(r.2.2:Int)+((locN (sub s r.2.2):Nat):Int)≤(s.size:Int):=by omega
         clear hv hT2 hf hb6 hA HB6 HO6 HB5 HO5
         go_wp2
         go_roundw
         case rel=>exact ⟨k+1,_,by omega,by go_num,unhide HZ2,by simp only [ByteArray.size_append]; rw [←unhide HKK]; go_num,by go_num,unhide HP2,unhide HO7,unhide HB7⟩
         case measure=>simp [intOf]; omega
      ·
       have hkm:k=NM:=by omega
       subst hkm
       have hqr:=unhide HR
       rw [unhide HQ] at hqr
       cases hqr
       have hle:=pre_le (unhide HPre) (by omega)
       have hleI:(q.2.2:Int)+(q.2.1.size:Int)≤(s.size:Int):=by omega
       have HEnd:=hide (zipG_end (unhide H12) (unhide HW) (unhide H6) (unhide HQ) (unhide HZB) (unhide HPre))
       have CEnd:=hide (fun W=>l7End_any k q.2.1.size q.2.2 W (by omega) (by omega) (by omega))
       have q1:=fun d os=>Calls.regrown_of (w:=wr) (d:=d) (os:=os) (unhide CEnd _)
       have t1:((q.2.2:Int)+(q.2.1.size:Int)).toNat=q.2.2+q.2.1.size:=by omega
       have w1:IntKind.i64.wrap ((q.2.2:Int)+(q.2.1.size:Int)-(q.2.2:Int))=(q.2.1.size:Int):=by rw [IntKind.wrap_i64]; omega
       have l1:0≤(q.2.2:Int)+(q.2.1.size:Int):=by omega
       rw [←unhide HE] at HEnd
       generalize endB k q.2.1.size q.2.2=EN at *
       obtain ⟨X,hX⟩:∃ x,s.extract (q.2.2+q.2.1.size) s.size=x:=⟨_,rfl⟩
       rw [hX] at HEnd
       obtain ⟨B,hB⟩:∃ b,(X.toList == EN.toList)=b:=⟨_,rfl⟩
       have HB:=hide hB
       clear CHd CRd HE HZB HPre CEnd
       go_wp2_with fail
       refine wp_region_quiet_below hmix (by kernel_rfl) ?_
       cases B
       all_goals
        quiet_step (fail)
        quiet_step (fail)
        quiet_step (fail)
        quiet_step (fail)
        quiet_step (fail)
        quiet_step (fail)
        quiet_step (fail)
        quiet_step (fail)
        quiet_step (exact q1 _ _)
        quiet_step (fail)
        refine wpQuiet_nil ?_
        intro zw hw'
        obtain ⟨⟨dq,osq⟩,hw2⟩:=hw'
        have HZ:=below_regrown wr dq osq
        rw [←hw2] at HZ
        have T9:=hide (bnext (unhide HBel) HZ)
        have O9:=hide ((unhide HOwn).later HZ (Nat.le_refl _))
        clear hw2 HZ q1
       ·
        have HN:=hide (unhide HNo (by rw [unhide HEnd,if_neg (fun e=>by have:=(ba_beq (unhide HB)).2 e; cases this)]) zw (unhide T9))
        go_wp2
        go_ret2
        exact unhide HN
       ·
        have HY:Hid (zipG s=some q.1):=by show _=_; rw [unhide HEnd,if_pos ((ba_beq (unhide HB)).1 rfl)]
        go_wp2
        go_ret2
        exact ⟨⟨_,by rw [unhide HY]; rfl,by rw [unhide HY]; exact unhide O9⟩,unhide T9⟩
  ·
   have C1:Hid (∀ W,Calls Tryz.prog 58 #[.int .i64 (NM:Nat),.int .i64 0,.int .i64 6] W fun e w'=>e = .returned (.bool false)∧w'=W):=fun W=>by
    have:=l1In_any (NM:Int) 0 6 W
    rw [show inB (NM:Int) 0 6=false by rw [inB_false]; omega] at this
    exact this
   have HN:=hide (unhide HNo (zipG_few (by rw [unhide HW]; omega)))
   clear h12 hs hNM
   go_enter Tryz.func39,Tryz.ntmps39
   go_wp2_with fail
   refine (unhide C _).mono ?_
   rintro e x1 ⟨rfl,hb1⟩
   have HB1:=hide hb1
   clear hb1 C
   go_wp2_with fail
   refine (unhide C1 _).mono ?_
   rintro e x2 ⟨rfl,hx2⟩
   subst hx2
   clear C1
   go_wp2
   go_ret2
   exact unhide HN _ (unhide HB1)
 ·
  have C:=hide (fun W=>l6Num_neg s ((s.size:Int)-12) W (by omega))
  have C1:Hid (∀ W,Calls Tryz.prog 58 #[.int .i64 (-1),.int .i64 0,.int .i64 6] W fun e w'=>e = .returned (.bool false)∧w'=W):=fun W=>by
   have:=l1In_any (-1) 0 6 W
   rw [show inB (-1) 0 6=false by decide] at this
   exact this
  have HN:=hide (unhide HNo (zipG_few (fun h=>h12 h.1)))
  go_enter Tryz.func39,Tryz.ntmps39
  go_wp2_with fail
  refine (unhide C _).mono ?_
  rintro e x1 ⟨rfl,hb1⟩
  have HB1:=hide hb1
  clear hb1 C
  go_wp2_with fail
  refine (unhide C1 _).mono ?_
  rintro e x2 ⟨rfl,hx2⟩
  subst hx2
  clear C1
  go_wp2
  go_ret2
  exact unhide HN _ (unhide HB1)
end Go.Proofs.YtkdlcomfpffhhaaGreatDoor
namespace Go.Proofs.YtkdlcomfpffhhaaGreatDoor
open Corb
set_option maxRecDepth 100000
def hqO (x:ByteArray) (p:Nat):Hq:=⟨wd x.data.toList 8 2,wd x.data.toList 10 4,wd x.data.toList 14 4,wd x.data.toList 18 4,wd x.data.toList 22 4,nmB x,p⟩
def hqAt (s:ByteArray) (k:Nat):Hq:=match zst s k with
 | some q=>hqO (sub s q.2.2) q.2.2
 | none=>hqO ⟨#[]⟩ 0
def hqL (s:ByteArray) (n:Nat):List Hq:=(List.range n).map (hqAt s)
theorem hqL_len (s:ByteArray) (n:Nat):(hqL s n).length=n:=by simp [hqL]
theorem hqL_snoc (s:ByteArray) (n:Nat):hqL s (n+1)=hqL s n++[hqAt s n]:=by simp [hqL,List.range_succ]
theorem hqL_get (s:ByteArray) (n i:Nat) (d:Hq) (h:i<n):(hqL s n).getD i d=hqAt s i:=by simp [hqL,List.getD,h]
theorem hqAt_is {s:ByteArray} {k:Nat} {q:List En×ByteArray×Nat} (h:zst s k=some q):hqAt s k=hqO (sub s q.2.2) q.2.2:=by
 unfold hqAt; rw [h]
theorem listQ_is {s:ByteArray} : ∀ {k:Nat} {q:List En×ByteArray×Nat},zst s k=some q→listQ (hqAt s) k=q.2.1
 | 0,q,h=>by cases h; rfl
 | k+1,q,h=>by
  obtain ⟨r,T,h1,h2,rfl⟩:=zst_step h
  rw [listQ,listQ_is h1,hqAt_is h1]; rfl
theorem hqAt_ok {s:ByteArray} (hs:s.size≤1048576) {k:Nat} {q:List En×ByteArray×Nat} (h:zst s k=some q):∀ i,i<k→okQ (hqAt s i):=by
 intro i hi
 obtain ⟨x,hx,_⟩:=zst_less h (by omega:i+1≤k)
 obtain ⟨r,T,h1,h2,_⟩:=zst_step hx
 rw [hqAt_is h1]
 have hE:=(loc_some h2).2
 have hn:=(ent_facts (n:=(enO (sub s r.2.2) T).n) (t:=(enO (sub s r.2.2) T).t) hE).1
 have hn2:(nmB (sub s r.2.2)).size≤43:=hn
 have hp:=(zst_at h1).2.1
 exact ⟨wd_two _ _,wd_four _ _,wd_four _ _,wd_four _ _,wd_four _ _,by show (nmB (sub s r.2.2)).size≤54; omega,by show r.2.2<4294967296; omega⟩
theorem code_snoc (l:List En) (e:En) (i:Nat) (hi:i<l.length):codeC (l++[e]) i=codeC l i:=by
 unfold codeC
 rw [List.take_append_of_le_length (by omega)]
 congr 1
 simp only [List.getD]
 rw [List.getElem?_append_left hi]
theorem code_last (l:List En) (e:En):codeC (l++[e]) l.length=roomC l e:=by
 unfold codeC
 rw [List.take_append_of_le_length (Nat.le_refl _),List.take_of_length_le (Nat.le_refl _)]
 congr 1
 simp [List.getD]
theorem zipB_snoc {l:List En} (h:zipB l=true) (e:En):zipB (l++[e])=true↔roomC l e=0:=by
 rw [zip_codes] at h ⊢
 constructor
 ·
  intro k
  have:=k l.length (by simp)
  rw [code_last] at this
  exact this
 ·
  intro k i hi
  by_cases hl:i<l.length
  ·
   rw [code_snoc l e i hl]; exact h i hl
  ·
   have:i=l.length:=by simp at hi; omega
   rw [this,code_last]; exact k
theorem mark_pre (s:ByteArray):Lib.hasPrefix s.data.toList [80,75,3,4]=decide (s.data.toList.take 4=[80,75,3,4]):=by
 rw [Bool.eq_iff_iff,decide_eq_true_eq]
 unfold Lib.hasPrefix
 rw [List.isPrefixOf_iff_prefix,List.prefix_iff_eq_take]
 exact eq_comm
end Go.Proofs.YtkdlcomfpffhhaaGreatDoor
namespace Go.Proofs.YtkdlcomfpffhhaaGreatDoor
open Go.RowKit Corb
set_option maxRecDepth 100000
abbrev QOwn:=GOwn (α:=Hq) 95 7 encQ
theorem kept_apart {w w':World} {o:Obj} {b1 b2 e1 e2 s1 s2 n1 n2:Nat} {v1 v2:Value} {x1 x2:List Value} (h1:w.ownsRow b1 e1 s1 v1 n1 x1) (h2:w.ownsRow b2 e2 s2 v2 n2 x2) (he:e1≠e2) (hg:(w.alloc o).grownBy w' v2.ownBlock):w'.ownsRow b1 e1 s1 v1 n1 x1:=
 World.ownsRow.kept (World.ownsRow.alloc h1 o) hg (type_apart (World.ownsRow.alloc h1 o) (World.ownsRow.alloc h2 o) he)
theorem zip_nil:zipB []=true:=by decide
theorem loc_none {x:ByteArray} (h:hdB x=false):locG x=none:=by
 unfold locG; rw [if_neg (by rw [h]; decide)]
theorem bad_none {s:ByteArray} {k:Nat} {q:List En×ByteArray×Nat} (hk:zst s k=some q) (hm:(sub s q.2.2).data.toList.take 4=[80,75,3,4]) (hT:locG (sub s q.2.2)=none):zipG s=none:=
 zipG_bad hk hm (fun T h=>by rw [hT] at h; cases h)
theorem bad_room {s:ByteArray} {k:Nat} {q:List En×ByteArray×Nat} (hk:zst s k=some q) (hz:zipB q.1=true) (hm:(sub s q.2.2).data.toList.take 4=[80,75,3,4]) {T:ByteArray} (hT:locG (sub s q.2.2)=some T) (hr:roomC q.1 (enO (sub s q.2.2) T)≠0):zipG s=none:=
 zipG_bad hk hm (fun T' h=>by
  rw [hT] at h
  cases h
  cases hb:zipB (q.1++[enO (sub s q.2.2) T])
  ·
   rfl
  ·
   exact absurd ((zipB_snoc hz _).1 hb) hr)
def ZrP (s:ByteArray) (w:World) (e:Ending) (w':World):Prop:=∃ v c,e = .returned (.tuple #[v,faultV c])∧(c=0→∃ l,zipG s=some l∧EOwn w' w.heap.size v l)∧(c≠0→zipG s=none)
theorem zr_no {s:ByteArray} {w w':World} (h:zipG s=none) (c:Int) (hc:c≠0):ZrP s w (.returned (.tuple #[.slice none 0 0,.iface 121 (.agg #[.int .i64 c])])) w':=
 ⟨.slice none 0 0,c,by unfold faultV; rw [if_neg hc],fun h0=>absurd h0 hc,fun _=>h⟩
set_option maxHeartbeats 12800000 in
theorem zipRead_any (s:ByteArray) (m:Int) (w:World) (hs:s.size≤1048576) (hm:w.cell? ⟨2,0,none⟩=some (.int .i64 m)) (hO:OrdC w) :
  Calls Tryz.prog 46 #[.string s] w fun e w'=>ZrP s w e w'∧Below w.heap.size w w':=by
 have hmix:Tryz.prog.follows .mixedOrders=true:=by kernel_rfl
 have hsI:(s.size:Int)≤1048576:=by omega
 have HS:=hide hs
 have HM:=hide hm
 have hmb:=hide (World.block_lt_of_cell? _ _ hm)
 have CM:=hide (fun W (hb:Below w.heap.size w W)=>(hb.cell (p:=⟨2,0,none⟩) (unhide hmb)).trans (unhide HM))
 have HO:=hide (fun W (hb:Below w.heap.size w W)=>hO.later hb)
 obtain ⟨i0,hi,hz0,hz1,hz2⟩:=info_parts Tryz.infoEnt
 obtain ⟨j0,hj,hy0,hy1,hy2⟩:=info_parts Tryz.infoHd
 clear hs hm hO
 go_enter Tryz.func46,Tryz.ntmps46
 go_wp2_with fail
 go_loopw [4,5,6,7,8,9,10,11] (fun f h p _ _ _ _ _ wr=>∃ (k:Nat) (q:List En×ByteArray×Nat),zst s k=some q∧zipB q.1=true∧p = .int .i64 (q.2.2:Nat)∧EOwn wr w.heap.size f q.1∧QOwn wr w.heap.size h (hqL s k)∧Below w.heap.size w wr) (fun _ _ p _ _ _ _ _ _=>s.size-(intOf p).toNat)
 case atStart=>exact ⟨0,([],⟨#[]⟩,0),rfl,zip_nil,rfl,GOwn.nil _ _,GOwn.nil _ _,Below.refl _ _⟩
 case round=>
  obtain ⟨k,q,hz,hzb,rfl,hf,hh,hbel⟩:=hrel
  have hzat:=zst_at hz
  have hk6:k≤6:=by have:=(zip_all hzb).2; omega
  have hpI:(q.2.2:Int)≤(s.size:Int):=by have:=hzat.2.1; omega
  have CX:Hid (∀ W,Calls Tryz.prog 77 #[.string (sub s q.2.2),.string ⟨#[80,75,3,4]⟩] W fun e w'=>e = .returned (.bool (decide ((sub s q.2.2).data.toList.take 4=[80,75,3,4])))∧w'=W):=fun W=>by
   have h:=Tryz.strings_HasPrefix (sub s q.2.2) (⟨#[80,75,3,4]⟩:ByteArray) W
   rw [←mark_pre]; exact h
  have HE:Hid (s.extract q.2.2 s.size=sub s q.2.2):=rfl
  have HZ:=hide hz
  have HZB:=hide hzb
  have HF:=hide hf
  have HH:=hide hh
  have HBel:=hide hbel
  have HAt:=hide hzat
  have hss:(sub s q.2.2).size≤1048576:=by rw [sub_size]; have:=unhide HS; omega
  by_cases hmk:(sub s q.2.2).data.toList.take 4=[80,75,3,4]
  ·
   have HMk:=hide hmk
   rw [decide_eq_true hmk] at CX
   have CH:=hide (fun W=>localHeadGet_any (sub s q.2.2) W hss)
   have HSS:=hide hss
   clear hmk hf hh hbel hzat hz hzb hss
   go_wp2_with fail
   refine (unhide CX _).mono ?_
   rintro e x0 ⟨rfl,hx0⟩
   subst hx0
   clear CX
   go_wp2_with fail
   refine (unhide CH _).mono ?_
   rintro e x1 ⟨hp,hb1⟩
   have HB1:=hide (bnext (unhide HBel) hb1)
   have HF1:=hide ((unhide HF).later hb1 (Nat.le_refl _))
   have HH1:=hide ((unhide HH).later hb1 (Nat.le_refl _))
   have hap1:Hid (∀ j,Value.ownBlock u4=some j→j<x1.heap.size):=fun j hj=>(World.ownsRow.lt (unhide HF1) j hj).2
   have hap2:Hid (∀ j,Value.ownBlock u5=some j→j<x1.heap.size):=fun j hj=>(World.ownsRow.lt (unhide HH1) j hj).2
   clear hb1 CH HF HH HBel
   rcases hp with ⟨hd,rfl⟩ | ⟨hd,a,b,c,d,f,n,t,ho,rfl⟩
   ·
    obtain ⟨h30,hfx,hto⟩:=hdB_is.1 hd
    have hnm:=nmB_size (s:=sub s q.2.2) (by omega)
    have hbd:=bdB_size (s:=sub s q.2.2) hto
    have l1:=wd_two (sub s q.2.2).data.toList 8
    have l2:=wd_four (sub s q.2.2).data.toList 10
    have l3:=wd_four (sub s q.2.2).data.toList 14
    have l4:=wd_four (sub s q.2.2).data.toList 18
    have l5:=wd_four (sub s q.2.2).data.toList 22
    have l6:=wd_two (sub s q.2.2).data.toList 26
    have HSz:=unhide HSS
    have CEn:=hide (fun W (hb:Below w.heap.size w W)=>lhEntry_any (wd (sub s q.2.2).data.toList 8 2) (wd (sub s q.2.2).data.toList 10 4) (wd (sub s q.2.2).data.toList 14 4) (wd (sub s q.2.2).data.toList 18 4) (wd (sub s q.2.2).data.toList 22 4) (nmB (sub s q.2.2)) (bdB (sub s q.2.2)) m W (by omega) l1 l2 l3 l5 (by omega) (unhide CM _ hb) (unhide HO _ hb))
    have CPu:=hide (fun (hen:enB (wd (sub s q.2.2).data.toList 8 2) (wd (sub s q.2.2).data.toList 10 4) (wd (sub s q.2.2).data.toList 14 4) (wd (sub s q.2.2).data.toList 22 4) (nmB (sub s q.2.2)) (bdB (sub s q.2.2))=true) W=>headPut_any (wd (sub s q.2.2).data.toList 8 2) (wd (sub s q.2.2).data.toList 10 4) (wd (sub s q.2.2).data.toList 14 4) (wd (sub s q.2.2).data.toList 18 4) (wd (sub s q.2.2).data.toList 22 4) (nmB (sub s q.2.2)) (bdB (sub s q.2.2)) W l1 l2 l3 l4 l5 (by omega) (by have:=en_small hen; omega))
    have hps:(headB (wd (sub s q.2.2).data.toList 8 2) (wd (sub s q.2.2).data.toList 10 4) (wd (sub s q.2.2).data.toList 14 4) (wd (sub s q.2.2).data.toList 18 4) (wd (sub s q.2.2).data.toList 22 4) (nmB (sub s q.2.2))++bdB (sub s q.2.2)).size=locN (sub s q.2.2):=by
     unfold headB locN
     rw [ByteArray.size_append,ByteArray.size_append,ByteArray.size_append,toldB_size,hnm,hbd]
     show 4+26+_+_=_
     omega
    have hLN:locN (sub s q.2.2)≤(sub s q.2.2).size∧30≤locN (sub s q.2.2):=⟨hto,by unfold locN; omega⟩
    have HY:Hid (enB (wd (sub s q.2.2).data.toList 8 2) (wd (sub s q.2.2).data.toList 10 4) (wd (sub s q.2.2).data.toList 14 4) (wd (sub s q.2.2).data.toList 22 4) (nmB (sub s q.2.2)) (bdB (sub s q.2.2))=true→∃ T,locG (sub s q.2.2)=some T∧enO (sub s q.2.2) T=⟨nmB (sub s q.2.2),zz (gOk (wd (sub s q.2.2).data.toList 10 4:Nat)) (gY (wd (sub s q.2.2).data.toList 10 4:Nat)),zz (gOk (wd (sub s q.2.2).data.toList 10 4:Nat)) (gM (wd (sub s q.2.2).data.toList 10 4:Nat)),zz (gOk (wd (sub s q.2.2).data.toList 10 4:Nat)) (gD (wd (sub s q.2.2).data.toList 10 4:Nat)),zz (gOk (wd (sub s q.2.2).data.toList 10 4:Nat)) (gH (wd (sub s q.2.2).data.toList 10 4:Nat)),zz (gOk (wd (sub s q.2.2).data.toList 10 4:Nat)) (gI (wd (sub s q.2.2).data.toList 10 4:Nat)),zz (gOk (wd (sub s q.2.2).data.toList 10 4:Nat)) (gS (wd (sub s q.2.2).data.toList 10 4:Nat)),uxT (wd (sub s q.2.2).data.toList 8 2) (bdB (sub s q.2.2))⟩):=fun h=>by
     have:=loc_en hd
     rw [if_pos h] at this
     obtain ⟨T,a,b,_⟩:=rd_yes this
     exact ⟨T,a,b⟩
    have HN:Hid (enB (wd (sub s q.2.2).data.toList 8 2) (wd (sub s q.2.2).data.toList 10 4) (wd (sub s q.2.2).data.toList 14 4) (wd (sub s q.2.2).data.toList 22 4) (nmB (sub s q.2.2)) (bdB (sub s q.2.2))=false→locG (sub s q.2.2)=none):=fun h=>by
     have:=loc_en hd
     rw [if_neg (by rw [h]; decide)] at this
     exact rd_no this
    have HQA:Hid (hqAt s k=⟨wd (sub s q.2.2).data.toList 8 2,wd (sub s q.2.2).data.toList 10 4,wd (sub s q.2.2).data.toList 14 4,wd (sub s q.2.2).data.toList 18 4,wd (sub s q.2.2).data.toList 22 4,nmB (sub s q.2.2),q.2.2⟩):=hqAt_is (unhide HZ)
    have hNs:(nmB (sub s q.2.2)).size≤1048576:=by omega
    have hUs:(uxT (wd (sub s q.2.2).data.toList 8 2) (bdB (sub s q.2.2))).size≤1048576:=ux_small (by omega)
    have hss2:(sub s q.2.2).size=s.size-q.2.2:=sub_size _ _
    unfold enE at CEn
    generalize headB (wd (sub s q.2.2).data.toList 8 2) (wd (sub s q.2.2).data.toList 10 4) (wd (sub s q.2.2).data.toList 14 4) (wd (sub s q.2.2).data.toList 18 4) (wd (sub s q.2.2).data.toList 22 4) (nmB (sub s q.2.2))++bdB (sub s q.2.2)=PB at *
    generalize enB (wd (sub s q.2.2).data.toList 8 2) (wd (sub s q.2.2).data.toList 10 4) (wd (sub s q.2.2).data.toList 14 4) (wd (sub s q.2.2).data.toList 22 4) (nmB (sub s q.2.2)) (bdB (sub s q.2.2))=EB at *
    generalize uxT (wd (sub s q.2.2).data.toList 8 2) (bdB (sub s q.2.2))=UT at *
    generalize zz (gOk (wd (sub s q.2.2).data.toList 10 4:Nat)) (gY (wd (sub s q.2.2).data.toList 10 4:Nat))=yy at *
    generalize zz (gOk (wd (sub s q.2.2).data.toList 10 4:Nat)) (gM (wd (sub s q.2.2).data.toList 10 4:Nat))=mo at *
    generalize zz (gOk (wd (sub s q.2.2).data.toList 10 4:Nat)) (gD (wd (sub s q.2.2).data.toList 10 4:Nat))=dd at *
    generalize zz (gOk (wd (sub s q.2.2).data.toList 10 4:Nat)) (gH (wd (sub s q.2.2).data.toList 10 4:Nat))=hh at *
    generalize zz (gOk (wd (sub s q.2.2).data.toList 10 4:Nat)) (gI (wd (sub s q.2.2).data.toList 10 4:Nat))=mi at *
    generalize zz (gOk (wd (sub s q.2.2).data.toList 10 4:Nat)) (gS (wd (sub s q.2.2).data.toList 10 4:Nat))=ss at *
    generalize bdB (sub s q.2.2)=BD at *
    generalize nmB (sub s q.2.2)=NM at *
    generalize wd (sub s q.2.2).data.toList 8 2=HW at *
    generalize wd (sub s q.2.2).data.toList 10 4=ST at *
    generalize wd (sub s q.2.2).data.toList 14 4=CR at *
    generalize wd (sub s q.2.2).data.toList 18 4=PK at *
    generalize wd (sub s q.2.2).data.toList 22 4=LN at *
    generalize wd (sub s q.2.2).data.toList 26 2=NL at *
    obtain ⟨LO,hLO⟩:∃ x,locN (sub s q.2.2)=x:=⟨_,rfl⟩
    rw [hLO] at hps hLN
    have hpJ:(q.2.2:Int)+(PB.size:Int)≤(s.size:Int):=by omega
    have hp30:30≤(PB.size:Int):=by omega
    have HLO:=hide (hLO.trans hps.symm)
    clear hd h30 hfx hto hnm hbd l1 l2 l3 l4 l5 l6 HSz hps hLN hLO hss2
    have HB2:=hide ((Below.refl x1.heap.size x1).alloc (Nat.le_refl _) (.cells #[.int .i64 (HW:Nat),.int .i64 (ST:Nat),.int .i64 (CR:Nat),.int .i64 (PK:Nat),.int .i64 (LN:Nat),.string NM,.string BD] 63))
    have R2:=hide (blk_alloc x1 #[.int .i64 (HW:Nat),.int .i64 (ST:Nat),.int .i64 (CR:Nat),.int .i64 (PK:Nat),.int .i64 (LN:Nat),.string NM,.string BD] 63)
    go_wp2_with fail
    refine (unhide CEn _ (bnext (unhide HB1) (unhide HB2))).mono ?_
    rintro e x2 ⟨rfl,hb2⟩
    have hb12:=bnext (unhide HB2) hb2
    have HB3:=hide (bnext (unhide HB1) hb12)
    have HF3:=hide ((unhide HF1).later hb12 (Nat.le_refl _))
    have HH3:=hide ((unhide HH1).later hb12 (Nat.le_refl _))
    have R3:=hide ((unhide R2).later hb2 (unhide R2).1)
    obtain ⟨HB,hHB⟩:∃ x,x1.heap.size=x:=⟨_,rfl⟩
    rw [hHB] at R3 hap1 hap2
    rw [hHB]
    clear hb2 hb12 HB2 R2 hHB CEn HB1 HF1 HH1
    cases EB
    ·
     have HNone:=hide (bad_none (unhide HZ) (unhide HMk) (unhide HN rfl))
     rw [show (if false=true then Value.tuple #[.agg #[.string NM,.int .i64 yy,.int .i64 mo,.int .i64 dd,.int .i64 hh,.int .i64 mi,.int .i64 ss,.string UT],.bool true] else .tuple #[noE,.bool false]) = .tuple #[.agg #[.string ⟨#[]⟩,.int .i64 0,.int .i64 0,.int .i64 0,.int .i64 0,.int .i64 0,.int .i64 0,.string ⟨#[]⟩],.bool false] from rfl]
     have HB4:=hide (bnext (unhide HB3) ((Below.refl x2.heap.size x2).alloc (Nat.le_refl _) (.cells #[.string ⟨#[]⟩,.int .i64 0,.int .i64 0,.int .i64 0,.int .i64 0,.int .i64 0,.int .i64 0,.string ⟨#[]⟩] 32)))
     go_wp2
     go_ret2
     exact ⟨zr_no (unhide HNone) 1 (by decide),unhide HB4⟩
    ·
     rw [show (if true=true then Value.tuple #[.agg #[.string NM,.int .i64 yy,.int .i64 mo,.int .i64 dd,.int .i64 hh,.int .i64 mi,.int .i64 ss,.string UT],.bool true] else .tuple #[noE,.bool false]) = .tuple #[.agg #[.string NM,.int .i64 yy,.int .i64 mo,.int .i64 dd,.int .i64 hh,.int .i64 mi,.int .i64 ss,.string UT],.bool true] from rfl]
     have HEX:Hid (∃ T,locG (sub s q.2.2)=some T∧enO (sub s q.2.2) T=⟨NM,yy,mo,dd,hh,mi,ss,UT⟩):=unhide HY rfl
     have HPu:Hid (∀ W,_):=unhide CPu rfl
     have hA:=(Below.refl x2.heap.size x2).alloc (Nat.le_refl _) (.cells #[.string NM,.int .i64 yy,.int .i64 mo,.int .i64 dd,.int .i64 hh,.int .i64 mi,.int .i64 ss,.string UT] 32)
     have HB4:=hide (bnext (unhide HB3) hA)
     have HF4:=hide ((unhide HF3).later hA (Nat.le_refl _))
     have HH4:=hide ((unhide HH3).later hA (Nat.le_refl _))
     have R4:=hide ((unhide R3).later hA (unhide R3).1)
     have Q4:=hide (blk_alloc x2 #[.string NM,.int .i64 yy,.int .i64 mo,.int .i64 dd,.int .i64 hh,.int .i64 mi,.int .i64 ss,.string UT] 32)
     obtain ⟨fa,fc,hu4,_,_⟩:=(unhide HF4).formN (unhide HAt).1
     have hQB:HB<x2.heap.size:=(unhide R3).1
     have CRo:=hide (zipRoom_any fa fc q.1 k (unhide HAt).1 ⟨NM,yy,mo,dd,hh,mi,ss,UT⟩ m _ (eown_row (unhide HAt).1 (by have:=unhide HF4; rw [hu4] at this; exact this)) (by omega) (fun i hi=>by have:=(zst_small (unhide HZ) i hi).1; omega) hNs (by show (UT.size:Int)≤_; omega) (unhide CM _ (unhide HB4)))
     rw [←hu4] at CRo
     clear hA HY HN CPu HF3 HH3 R3 hu4 HB3 hNs hUs
     go_wp2_with fail
     refine (unhide CRo).mono ?_
     rintro e x4 ⟨rfl,hb4⟩
     have HB5:=hide (bnext (unhide HB4) hb4)
     have HF5:=hide ((unhide HF4).later hb4 (Nat.le_refl _))
     have HH5:=hide ((unhide HH4).later hb4 (Nat.le_refl _))
     have R5:=hide ((unhide R4).later hb4 (unhide R4).1)
     have Q5:=hide ((unhide Q4).later hb4 (unhide Q4).1)
     obtain ⟨QB,hQBe⟩:∃ x,x2.heap.size=x:=⟨_,rfl⟩
     rw [hQBe] at Q5 hQB
     rw [hQBe]
     clear hb4 HB4 HF4 HH4 R4 Q4 CRo hQBe
     by_cases hc0:roomC q.1 ⟨NM,yy,mo,dd,hh,mi,ss,UT⟩=0
     ·
      rw [show faultV (roomC q.1 ⟨NM,yy,mo,dd,hh,mi,ss,UT⟩) = .nilIface by rw [hc0]; rfl]
      have HNX:Hid (∃ T,zst s (k+1)=some (q.1++[⟨NM,yy,mo,dd,hh,mi,ss,UT⟩],T,q.2.2+PB.size)∧zipB (q.1++[⟨NM,yy,mo,dd,hh,mi,ss,UT⟩])=true):=by
       obtain ⟨T,hT,hE⟩:=unhide HEX
       have h2:=zst_yes (unhide HZ) hT
       rw [hE,unhide HLO] at h2
       exact ⟨_,h2,(zipB_snoc (unhide HZB) _).2 hc0⟩
      have hlen1:Hid ((k+1≤maxLen∧(k+1)*80≤140737488355328)∧(k+1)*64≤140737488355328):=by
       show (_∧_)∧_
       unfold maxLen
       omega
      have hf1:=GOwn.own (unhide HAt).1 (unhide HF5)
      have hh1:=GOwn.own (hqL_len s k) (unhide HH5)
      have hbs1:=(unhide HB5).size
      have pA:=(unhide Q5).cells (n:=8) rfl
      clear hc0 HEX HMk HSS HE
      go_wp2_with (first
       | (at_builtin; refine wpList_append_own _ rfl _ _ 33 rfl w.heap.size 32 i0 (.agg #[.string ⟨#[]⟩,.int .i64 0,.int .i64 0,.int .i64 0,.int .i64 0,.int .i64 0,.int .i64 0,.string ⟨#[]⟩]) 8 80 Tryz.underlying33 hi hz0 hz1 hz2 rfl (by decide) _ _ _ rfl (World.ownsRow.alloc hf1 _) ⟨x4.heap.size,0,none⟩ 1 1 (encE ⟨NM,yy,mo,dd,hh,mi,ss,UT⟩) rfl rfl (new_cells x4 _ _) (encE_one _) (unhide hlen1).1.1 (unhide hlen1).1.2 (size_alloc_le hbs1 _) ?_; intro v5 x5 hown hgrow hnil; clear hnil; have R6:=hide (Blk.grown (Blk.later (unhide R5) ((Below.refl _ _).alloc (Nat.le_refl _) _) (unhide R5).1) hgrow (fun e=>absurd (unhide hap1 _ e.symm) (Nat.lt_irrefl _))); have rA:=(unhide R6).cells (n:=7) rfl; have hh2:=kept_apart hh1 hf1 (by decide) hgrow; have hb6:=grown_step (v:=u4) hgrow hf1 (Nat.le_refl _) hbs1 (unhide HB5); have hbs2:=hb6.size)
       | (at_builtin; refine wpList_append_own _ rfl _ _ 93 rfl w.heap.size 95 j0 (.agg #[.int .i64 0,.int .i64 0,.int .i64 0,.int .i64 0,.int .i64 0,.string ⟨#[]⟩,.int .i64 0]) 7 64 Tryz.underlying93 hj hy0 hy1 hy2 rfl (by decide) _ _ _ rfl (World.ownsRow.alloc hh2 _) ⟨x5.heap.size,0,none⟩ 1 1 (encQ ⟨HW,ST,CR,PK,LN,NM,q.2.2⟩) rfl rfl (new_cells x5 _ _) (encQ_one _) (unhide hlen1).1.1 (unhide hlen1).2 (size_alloc_le hbs2 _) ?_; intro v6 x6 hown2 hgrow2 hnil; clear hnil; have R7:=hide (Blk.grown (Blk.later (unhide R6) ((Below.refl _ _).alloc (Nat.le_refl _) _) (unhide R6).1) hgrow2 (fun e=>absurd (unhide hap2 _ e.symm) (Nat.lt_irrefl _))); have rA:=(unhide R7).cells (n:=7) rfl; have hf2:=kept_apart hown hh2 (by decide) hgrow2; have hb7:=grown_step (v:=u5) hgrow2 hh2 (Nat.le_refl _) hbs2 hb6))
      refine (unhide HPu _).mono ?_
      rintro e x7 ⟨rfl,hb8⟩
      have hq2:EOwn x6 w.heap.size v5 (q.1++[⟨NM,yy,mo,dd,hh,mi,ss,UT⟩]):=GOwn.snoc (unhide HAt).1 hf2
      have hq3:QOwn x6 w.heap.size v6 (hqL s k++[hqAt s k]):=GOwn.snoc (hqL_len s k) (by rw [unhide HQA]; exact hown2)
      rw [←hqL_snoc] at hq3
      have HF8:=hide (hq2.later hb8 (Nat.le_refl _))
      have HH8:=hide (hq3.later hb8 (Nat.le_refl _))
      have HB8:=hide (bnext hb7 hb8)
      clear hown hown2 hgrow hgrow2 hq2 hq3 hb8 hb7 hb6 hbs1 hbs2 hf1 hf2 hh1 hh2 rA R5 R6 R7 Q5 pA HF5 HH5 HB5
      go_wp2
      go_roundw
      case rel=>
       obtain ⟨C,hz2,hb2⟩:=unhide HNX
       exact ⟨k+1,_,hz2,hb2,by go_num,unhide HF8,unhide HH8,unhide HB8⟩
      case measure=>simp [intOf]; omega
     ·
      rw [show faultV (roomC q.1 ⟨NM,yy,mo,dd,hh,mi,ss,UT⟩) = .iface 121 (.agg #[.int .i64 (roomC q.1 ⟨NM,yy,mo,dd,hh,mi,ss,UT⟩)]) by unfold faultV; rw [if_neg hc0]]
      have HNone:Hid (zipG s=none):=by
       obtain ⟨T,hT,hE⟩:=unhide HEX
       exact bad_room (unhide HZ) (unhide HZB) (unhide HMk) hT (by rw [hE]; exact hc0)
      have HC:=hide hc0
      clear hc0 HEX
      generalize roomC q.1 ⟨NM,yy,mo,dd,hh,mi,ss,UT⟩=c at *
      go_wp2
      go_ret2
      exact ⟨zr_no (unhide HNone) c (unhide HC),unhide HB5⟩
   ·
    have HNone:=hide (bad_none (unhide HZ) (unhide HMk) (loc_none hd))
    obtain ⟨o1,o2,o3,o4,o5,o6,o7⟩:=ho
    have CEn:=hide (fun W (hb:Below w.heap.size w W)=>lhEntry_any a b c d f n t m W (by have:=unhide HSS; omega) o1 o2 o3 o5 (by have:=unhide HSS; omega) (unhide CM _ hb) (unhide HO _ hb))
    unfold enE at CEn
    generalize enB a b c f n t=EB at *
    generalize uxT a t=UT at *
    generalize zz (gOk (b:Nat)) (gY (b:Nat))=yy at *
    generalize zz (gOk (b:Nat)) (gM (b:Nat))=mo at *
    generalize zz (gOk (b:Nat)) (gD (b:Nat))=dd at *
    generalize zz (gOk (b:Nat)) (gH (b:Nat))=hh at *
    generalize zz (gOk (b:Nat)) (gI (b:Nat))=mi at *
    generalize zz (gOk (b:Nat)) (gS (b:Nat))=ss at *
    have HB2:=hide (bnext (unhide HB1) ((Below.refl x1.heap.size x1).alloc (Nat.le_refl _) (.cells #[.int .i64 (a:Nat),.int .i64 (b:Nat),.int .i64 (c:Nat),.int .i64 (d:Nat),.int .i64 (f:Nat),.string n,.string t] 63)))
    clear o1 o2 o3 o4 o5 o6 o7 HF1 HH1 hap1 hap2 hd HSS HAt HE
    go_wp2_with fail
    refine (unhide CEn _ (unhide HB2)).mono ?_
    rintro e x2 ⟨rfl,hb2⟩
    have HB3:=hide (bnext (unhide HB2) hb2)
    clear hb2 HB2 CEn
    cases EB
    ·
     rw [show (if false=true then Value.tuple #[.agg #[.string n,.int .i64 yy,.int .i64 mo,.int .i64 dd,.int .i64 hh,.int .i64 mi,.int .i64 ss,.string UT],.bool true] else .tuple #[noE,.bool false]) = .tuple #[.agg #[.string ⟨#[]⟩,.int .i64 0,.int .i64 0,.int .i64 0,.int .i64 0,.int .i64 0,.int .i64 0,.string ⟨#[]⟩],.bool false] from rfl]
     have HB4:=hide (bnext (unhide HB3) ((Below.refl x2.heap.size x2).alloc (Nat.le_refl _) (.cells #[.string ⟨#[]⟩,.int .i64 0,.int .i64 0,.int .i64 0,.int .i64 0,.int .i64 0,.int .i64 0,.string ⟨#[]⟩] 32)))
     go_wp2
     go_ret2
     exact ⟨zr_no (unhide HNone) 1 (by decide),unhide HB4⟩
    ·
     rw [show (if true=true then Value.tuple #[.agg #[.string n,.int .i64 yy,.int .i64 mo,.int .i64 dd,.int .i64 hh,.int .i64 mi,.int .i64 ss,.string UT],.bool true] else .tuple #[noE,.bool false]) = .tuple #[.agg #[.string n,.int .i64 yy,.int .i64 mo,.int .i64 dd,.int .i64 hh,.int .i64 mi,.int .i64 ss,.string UT],.bool true] from rfl]
     have HB4:=hide (bnext (unhide HB3) ((Below.refl x2.heap.size x2).alloc (Nat.le_refl _) (.cells #[.string n,.int .i64 yy,.int .i64 mo,.int .i64 dd,.int .i64 hh,.int .i64 mi,.int .i64 ss,.string UT] 32)))
     go_wp2
     go_ret2
     exact ⟨zr_no (unhide HNone) 1 (by decide),unhide HB4⟩
  ·
   rw [decide_eq_false hmk] at CX
   have HSt:=hide (zipG_stop hz hzb hmk)
   obtain ⟨ha,hc,hu5,_,_⟩:=hh.formN (hqL_len s k)
   have HW:Hid (Row7 wr ha k fun i=>encQ (hqAt s i)):=by
    rw [hu5] at hh
    intro h0
    obtain ⟨g,e,hg,hc⟩:=own_row7 encQ_len ⟨0,0,0,0,0,⟨#[]⟩,0⟩ (hqL_len s k) hh h0
    exact ⟨g,e,hg,fun i hi j u hu=>hc i hi j u (by show (encQ ((hqL s k).getD i _))[j]?=_; rw [hqL_get s k i _ hi]; exact hu)⟩
   have CEnd:Hid (∀ W,Below wr.heap.size wr W→Calls Tryz.prog 61 #[.slice ha k hc,.int .i64 (q.2.2:Nat)] W fun e w'=>e = .returned (.string (q.2.1++endB k q.2.1.size q.2.2))∧Below W.heap.size W w'):=fun W hb=>by
    have:=zipEndQ_any ha hc k q.2.2 (hqAt s) W ((unhide HW).later hb) hk6 (hqAt_ok (unhide HS) (unhide HZ)) (by omega)
    rw [listQ_is (unhide HZ)] at this
    exact this
   rw [←hu5] at CEnd
   rw [←unhide HE] at CX HSt
   have q1:=fun d os=>Calls.regrown_of (w:=wr) (d:=d) (os:=os) (unhide CEnd _ (below_regrown wr d os))
   have z1:((q.2.2:Nat):Int).toNat=q.2.2:=Int.toNat_natCast _
   generalize q.2.1++endB k q.2.1.size q.2.2=EN at *
   obtain ⟨X,hX⟩:∃ x,s.extract q.2.2 s.size=x:=⟨_,rfl⟩
   rw [hX] at CX HSt
   obtain ⟨B,hB⟩:∃ b,(X.toList == EN.toList)=b:=⟨_,rfl⟩
   have HB:=hide hB
   clear hf hh hbel hzat hz hzb hss hmk HH HW CEnd hu5 HZ HZB HAt HE
   go_wp2_with fail
   refine (unhide CX _).mono ?_
   rintro e x0 ⟨rfl,hx0⟩
   subst hx0
   clear CX
   go_wp2_with fail
   refine wp_region_quiet_below hmix (by kernel_rfl) ?_
   cases B
   all_goals
    quiet_step (fail)
    quiet_step (fail)
    quiet_step (fail)
    quiet_step (fail)
    quiet_step (fail)
    quiet_step (exact q1 _ _)
    quiet_step (fail)
    refine wpQuiet_nil ?_
    intro zw hw'
    obtain ⟨⟨dq,osq⟩,hw2⟩:=hw'
    have HZ:=below_regrown x0 dq osq
    rw [←hw2] at HZ
    have T9:=hide (bnext (unhide HBel) HZ)
    have O9:=hide ((unhide HF).later HZ (Nat.le_refl _))
    clear hw2 HZ q1
   ·
    have HN:Hid (zipG s=none):=by show _=_; rw [unhide HSt,if_neg (fun e=>by have:=(ba_beq (unhide HB)).2 e; cases this)]
    go_wp2
    go_ret2
    exact ⟨zr_no (unhide HN) 1 (by decide),unhide T9⟩
   ·
    have HY:Hid (zipG s=some q.1):=by show _=_; rw [unhide HSt,if_pos ((ba_beq (unhide HB)).1 rfl)]
    go_wp2
    go_ret2
    exact ⟨⟨_,0,rfl,fun _=>⟨_,unhide HY,unhide O9⟩,fun h=>absurd rfl h⟩,unhide T9⟩
theorem ErrT.later {w W:World} (hg:ErrT w) (hb:Below w.heap.size w W):ErrT W:=(hb.cell (p:=⟨0,0,none⟩) (World.block_lt_of_cell? _ _ hg)).trans hg
set_option maxHeartbeats 3200000 in
theorem implZipGet_any (s:ByteArray) (m:Int) (w:World) (hs:s.size≤1048576) (hm:w.cell? ⟨2,0,none⟩=some (.int .i64 m)) (hg:ErrT w) (hO:OrdC w) :
  Calls Tryz.prog 19 #[.string s] w fun e w'=>(∃ v,e = .returned (.tuple #[v,.bool (zipG s).isSome])∧EOwn w' w.heap.size v ((zipG s).getD []))∧Below w.heap.size w w':=by
 have C:=hide (zipRead_any s m w hs hm hO)
 have HG:=hide hg
 clear hm hg hO hs
 go_enter Tryz.func19,Tryz.ntmps19
 go_wp2_with fail
 refine (unhide C).mono ?_
 rintro e x1 ⟨⟨v,c,rfl,h0,h1⟩,hb1⟩
 have HB1:=hide hb1
 have C2:=hide (zipCode_any c x1 ((unhide HG).later hb1))
 have H0:=hide h0
 have H1:=hide h1
 clear h0 h1 hb1 C HG
 generalize faultV c=FV at *
 go_wp2_with fail
 refine (unhide C2).mono ?_
 rintro e x2 ⟨rfl,hb2⟩
 have HB2:=hide (bnext (unhide HB1) hb2)
 by_cases hc:c=0
 ·
  obtain ⟨l,hl,hown⟩:=unhide H0 hc
  have HL:=hide hl
  have HO:=hide (hown.later hb2 (Nat.le_refl _))
  subst hc
  clear hl hown hb2 C2 H0 H1 HB1
  go_wp2
  go_ret2
  exact ⟨⟨_,by rw [unhide HL]; rfl,by rw [unhide HL]; exact unhide HO⟩,unhide HB2⟩
 ·
  have HL:=hide (unhide H1 hc)
  have hd:decide (c=0)=false:=decide_eq_false hc
  clear hb2 C2 H0 H1 HB1
  go_wp2
  go_ret2
  exact ⟨⟨_,by rw [unhide HL]; rfl,by rw [unhide HL]; exact GOwn.nil _ _⟩,unhide HB2⟩
def dgT (k:Nat) (acc:ByteArray):ByteArray:=if _h:k=0 then acc else dgT (k/10) ((⟨#[UInt8.ofNat (48+k%10)]⟩:ByteArray)++acc)
 termination_by k
 decreasing_by omega
theorem dgT_step {k:Nat} (h:k≠0) (acc:ByteArray):dgT k acc=dgT (k/10) ((⟨#[UInt8.ofNat (48+k%10)]⟩:ByteArray)++acc):=by rw [dgT,dif_neg h]
theorem dgT_zero (acc:ByteArray):dgT 0 acc=acc:=by rw [dgT,dif_pos rfl]
def mkT (k:Nat):ByteArray:=(⟨#[109]⟩:ByteArray)++dgT k ⟨#[]⟩
theorem one_text (w:World) (base d:Nat) (hb:base≤w.heap.size) (hd:d<256):BOwn (w.alloc (.cells #[.int .u8 (d:Int)] 5)) base (.slice (some ⟨w.heap.size,0,none⟩) 1 1) [UInt8.ofNat d]:=by
 have h:(w.alloc (.cells #[.int .u8 (d:Int)] 5)).ownsRow base 5 1 (.slice (some ⟨w.heap.size,0,none⟩) 1 1) 1 [.int .u8 (d:Int)]:=World.ownsRow_lit w #[.int .u8 (d:Int)] 1 hb (by unfold maxLen; omega) rfl
 have e:((UInt8.ofNat d).toNat:Int)=(d:Int):=by rw [UInt8.toNat_ofNat']; omega
 show World.ownsRow _ _ _ _ _ _ (bcells [UInt8.ofNat d])
 rw [show bcells [UInt8.ofNat d]=[.int .u8 ((UInt8.ofNat d).toNat:Int)] from rfl,e]
 exact h
set_option maxHeartbeats 3200000 in
theorem markText_any (K:Nat) (w:World) (h0:0<K) (h1:K≤3000000) :
  Calls Tryz.prog 43 #[.int .i64 (K:Nat)] w fun e w'=>e = .returned (.string (mkT K))∧Below w.heap.size w w':=by
 have h0I:0<(K:Int):=by omega
 have HE:Hid (mkT K=(⟨#[109]⟩:ByteArray)++dgT K ⟨#[]⟩):=rfl
 obtain ⟨R,hR⟩:∃ x,dgT K ⟨#[]⟩=x:=⟨_,rfl⟩
 rw [hR] at HE
 have HR:=hide hR
 clear hR
 go_enter Tryz.func43,Tryz.ntmps43
 go_wp2_with fail
 go_loopw [0,3] (fun i o wr=>∃ (k:Nat) (acc:ByteArray),i = .int .i64 k∧o = .string acc∧k+acc.size≤3000000∧dgT k acc=R∧Below w.heap.size w wr) (fun i _ _=>(intOf i).toNat)
 case atStart=>exact ⟨K,⟨#[]⟩,rfl,rfl,by show K+0≤3000000; omega,unhide HR,Below.refl _ _⟩
 case round=>
  obtain ⟨k,acc,rfl,rfl,hsz,hd,hbel⟩:=hrel
  by_cases hk:k=0
  ·
   subst hk
   rw [dgT_zero] at hd
   subst hd
   have HB:=hide hbel
   have hzI:(acc.size:Int)≤3000000:=by omega
   clear hbel hsz
   go_wp2
   go_ret
   exact ⟨by rw [unhide HE]; rfl,unhide HB⟩
  ·
   rw [dgT_step hk] at hd
   have HD:=hide hd
   obtain ⟨y,hy⟩:∃ y,48+k%10=y:=⟨_,rfl⟩
   obtain ⟨q,hq⟩:∃ q,k/10=q:=⟨_,rfl⟩
   rw [hy,hq] at HD
   have hkI:0<(k:Int):=by omega
   have hkJ:(k:Int)≤3000000:=by omega
   have hz:(acc.size:Int)≤3000000:=by omega
   have e1:Int.tmod (k:Int) 10=(y:Int)-48:=by rw [Int.tmod_eq_emod_of_nonneg (by omega)]; omega
   have e2:Int.tdiv (k:Int) 10=(q:Int):=by rw [Int.tdiv_eq_ediv_of_nonneg (by omega)]; omega
   have e3:(k:Int)%10=(y:Int)-48:=by omega
   have e4:(k:Int)/10=(q:Int):=by omega
   have e5:(48:Int)+((y:Int)-48)=(y:Int):=by omega
   have hyb:(y:Int)<58:=by omega
   have hu:IntKind.u8.wrap (y:Int)=(y:Int):=by simp only [IntKind.wrap,IntKind.bits,IntKind.signed]; simp; omega
   have hcv:=(one_text wr w.heap.size y hbel.size (by omega)).text
   have HB:=hide (hbel.alloc hbel.size (.cells #[.int .u8 (y:Int)] 5))
   have HS:Hid (q+((⟨#[UInt8.ofNat y]⟩:ByteArray)++acc).size≤3000000∧q<k):=by
    show _∧_
    rw [ByteArray.size_append]
    show q+(1+_)≤_∧_
    omega
   have hz2:(((⟨#[UInt8.ofNat y]⟩:ByteArray)).size:Int)=1:=rfl
   clear hd hsz hy hq hbel
   go_wp2
   go_roundw
   case rel=>exact ⟨q,_,by go_num,rfl,(unhide HS).1,unhide HD,unhide HB⟩
   case measure=>have:=(unhide HS).2; simp [intOf]; omega
theorem setL_len (vs xs:List Value) (o:Nat):(setL xs o vs).length=xs.length:=by
 induction vs generalizing xs o with
 | nil=>rfl
 | cons v vs ih=>rw [setL,ih,List.length_set]
theorem own_later {w w':World} {base B n:Nat} {T:TypeId} {c:Nat} {v:Value} {xs:List Value} (h:w.ownsRow base T c v n xs) (hb:Below B w w') (hB:w.heap.size≤B):w'.ownsRow base T c v n xs:=
 World.ownsRow.kept h (row:=none) ⟨hb.os,hb.tape,hb.output,hb.size,fun k hk _=>hb.block k (by omega)⟩ (by
  cases hv:v.ownBlock with
  | none=>exact .inl rfl
  | some k=>exact .inr (by simp))
end Go.Proofs.YtkdlcomfpffhhaaGreatDoor

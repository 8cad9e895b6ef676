/- Of what the proof is made: 2 texts, one behind the other. -/
import Derived.Test.YtkdlcomfpffhhaaGreatDoorM25
import Derived.Lib.QuietBelow
namespace Go.Proofs.YtkdlcomfpffhhaaGreatDoor
open Go.RowKit
theorem take_getD (l:List En) (k i:Nat) (hi:i<k):(l.take k).getD i default=l.getD i default:=by
 simp only [List.getD]
 rw [List.getElem?_take_of_lt hi]
def codeC (l:List En) (i:Nat):Int:=roomC (l.take i) (l.getD i default)
theorem anyC_iff (l:List En) (x:ByteArray):anyC l x=false↔∀ j,j<l.length→clashL (l.getD j default).n.data.toList x.data.toList=false:=by
 refine ⟨fun h j hj=>?_,anyC_miss⟩
 cases e:clashL (l.getD j default).n.data.toList x.data.toList
 ·
  rfl
 ·
  rw [anyC_hit hj e] at h; cases h
theorem room_zero (l:List En) (e:En):roomC l e=0↔entE e=true∧anyC l e.n=false∧l.length<6:=by
 unfold roomC
 cases h1:entE e
 ·
  simp
 ·
  cases h2:anyC l e.n
  ·
   by_cases h3:6≤l.length
   ·
    simp [h3]
   ·
    simp [h3]; omega
  ·
   simp
theorem code_zero {l:List En} {i:Nat} (hi:i<l.length):codeC l i=0↔entE (l.getD i default)=true∧(∀ j,j<i→clashL (l.getD j default).n.data.toList (l.getD i default).n.data.toList=false)∧i<6:=by
 have hl:(l.take i).length=i:=by rw [List.length_take]; omega
 unfold codeC
 rw [room_zero,anyC_iff,hl]
 constructor
 ·
  rintro ⟨h1,h2,h3⟩
  exact ⟨h1,fun j hj=>by have:=h2 j hj; rwa [take_getD l i j hj] at this,h3⟩
 ·
  rintro ⟨h1,h2,h3⟩
  exact ⟨h1,fun j hj=>by rw [take_getD l i j hj]; exact h2 j hj,h3⟩
theorem und_self (a:List UInt8):undL a a=false:=by
 cases e:undL a a
 ·
  rfl
 ·
  have:=(List.isPrefixOf_iff_prefix.1 e).length_le
  rw [List.length_append] at this
  simp only [List.length_cons,List.length_nil] at this
  omega
theorem clash_no {a b:List UInt8} (h:clashL a b=false):¬ a=b∧undL b a=false∧undL a b=false:=by
 simp only [clashL,Bool.or_eq_false_iff,beq_eq_false_iff_ne,ne_eq] at h
 exact ⟨h.1,h.2.1,h.2.2⟩
theorem one_parts (l:List En) (i:Nat):oneB l i=true↔entE (l.getD i default)=true∧atN l (l.getD i default).n=(i:Int)∧freeB l i=true:=by
 simp [oneB]
theorem atN_first {l:List En} {i j:Nat} (hi:i<l.length) (hj:j<i) (e:(l.getD j default).n.data.toList=(l.getD i default).n.data.toList):¬ atN l (l.getD i default).n=(i:Int):=by
 intro h
 unfold atN at h
 split at h
 ·
  rename_i q hq
  have hq2:q=i:=by omega
  subst hq2
  rw [List.findIdx?_eq_some_iff_getElem] at hq
  obtain ⟨_,_,h3⟩:=hq
  have h4:=h3 j hj
  have hj':j<l.length:=by omega
  simp only [List.getD,List.getElem?_eq_getElem hj',Option.getD_some] at e
  simp only [beq_iff_eq] at h4
  exact h4 (by simpa [List.getD] using e)
 ·
  omega
theorem zip_codes (l:List En):zipB l=true↔∀ i,i<l.length→codeC l i=0:=by
 constructor
 ·
  intro h i hi
  simp only [zipB,Bool.and_eq_true,decide_eq_true_eq,List.all_eq_true] at h
  obtain ⟨h1,h6⟩:=h
  obtain ⟨e1,e2,e3⟩:=(one_parts l i).1 (h1 i (List.mem_range.2 hi))
  refine (code_zero hi).2 ⟨e1,fun j hj=>?_,by omega⟩
  obtain ⟨_,_,f3⟩:=(one_parts l j).1 (h1 j (List.mem_range.2 (by omega)))
  simp only [freeB,List.all_eq_true,Bool.not_eq_true'] at e3 f3
  have u1:=e3 j (List.mem_range.2 (by omega))
  have u2:=f3 i (List.mem_range.2 hi)
  simp only [clashL,Bool.or_eq_false_iff,beq_eq_false_iff_ne,ne_eq]
  exact ⟨fun e=>atN_first hi hj e e2,u1,u2⟩
 ·
  intro h
  have h6:l.length≤6:=by
   rcases Nat.lt_or_ge 6 l.length with h7 | h7
   ·
    have:=((code_zero h7).1 (h 6 h7)).2.2; omega
   ·
    exact h7
  rw [zip_yes (fun i hi=>?_)]
  ·
   simpa using h6
  ·
   obtain ⟨c1,c2,_⟩:=(code_zero hi).1 (h i hi)
   refine (one_parts l i).2 ⟨c1,atN_hit hi (fun j hj e=>(clash_no (c2 j hj)).1 (list_of_ba.1 e)) rfl,free_yes (fun k hk=>?_)⟩
   rcases Nat.lt_trichotomy k i with hki | hki | hki
   ·
    exact (clash_no (c2 k hki)).2.1
   ·
    rw [hki]; exact und_self _
   ·
    exact (clash_no (((code_zero hk).1 (h k hk)).2.1 i hki)).2.2
end Go.Proofs.YtkdlcomfpffhhaaGreatDoor

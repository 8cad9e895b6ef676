/- Of what the proof is made: 2 texts, one behind the other. -/
import Derived.Deep.RegionLawGrows
import Derived.Lib.Split
import Derived.Lib.SplitLaws
import Derived.Lib.IndexLaws
import Derived.KernelRfl
namespace Go
theorem step_append_own {P:Program} {ops:Array Oper} {o:Oper} {a:Act} {w:World} {K:Act→World→Prop} {Q:Exit→Act→World→Prop} {E:Prop}
  (hg:o.guard=none) (s x:Operand) (t:TypeId) (hop:o.op=Op.call { callee:=Callee.builtin Builtin.append,args:=#[s,x],argTypes:=#[t,t] })
  (base:Nat) (e:TypeId) (i:TypeInfo) (z:Value) (size bytes:Nat) (h1:P.underlying t=some (.slice e)) (h2:P.info? e=some i) (h3:i.zero=some z) (h4:i.size=size) (h5:i.bytes=bytes) (h6:z.cells.size=size) (h7:0<size)
  (v:Value) (n:Nat) (xs:List Value) (hs:a.eval s=v) (hown:w.ownsRow base e size v n xs)
  (ad:Addr) (m c:Nat) (news:List Value) (hx:a.eval x = .slice (some ad) m c) (hn:news.length=m*size) (hc:∀ j u,news[j]?=some u→w.cell? (ad.add j)=some u) (h1c:∀ u∈news,u.oneCell'=true)
  (b1:n+m≤maxLen) (b2:(n+m)*bytes≤140737488355328) (b3:base≤w.heap.size)
  (hK:∀ v' w',w'.ownsRow base e size v' (n+m) (xs++news)→w.grownBy w' v.ownBlock→(v' = .slice none 0 0↔v = .slice none 0 0∧m=0)→K (a.put o.dst v') w') :
  if Region.wanted o (yielded ops a.tmps)=true then Oper.wp P o a w K Q else E:=by
 have hw:Region.wanted o (yielded ops a.tmps)=true:=by simp [Region.wanted,hg]
 rw [if_pos hw]
 obtain ⟨v',w',hrun,r1,r2,r3⟩:=run_append_own (P:=P) w base t o.type e i z size bytes h1 h2 h3 h4 h5 h6 h7 v n xs hown ad m c news hn hc h1c b1 b2 b3
 unfold Oper.wp
 simp [execOp,hop,resolve,invoke,builtin,hs,hx,hrun,Result.andThen]
 exact hK v' w' r1 r2 r3
end Go
namespace Go.Proofs.YtemjckkocljgnaaGreatDoor
open Go
def okB (b:UInt8):Bool:=decide (97≤b.toNat)&&decide (b.toNat≤122) || (decide (48≤b.toNat)&&decide (b.toNat≤57) || (b.toNat == 46 || (b.toNat == 45 || b.toNat == 95)))
def partB (p:List UInt8):Bool:=p.all okB&&(decide (1≤p.length)&&(decide (p.length≤10)&&(!(p == [46])&&!(p == [46,46]))))
def cutG:List UInt8→List UInt8→List (List UInt8)
 | cur,[]=>[cur]
 | cur,b :: l=>if b=47 then cur :: cutG [] l else cutG (cur++[b]) l
def cutP (l:List UInt8):List (List UInt8):=cutG [] l
def nameB (l:List UInt8):Bool:=(cutP l).all partB&&decide ((cutP l).length≤4)
def ahead (cur:List UInt8):List (List UInt8)→List (List UInt8)
 | []=>[cur]
 | h :: t=>(cur++h) :: t
theorem cutG_ahead:∀ (l cur:List UInt8),cutG cur l=ahead cur (cutG [] l)
 | [],cur=>by simp [cutG,ahead]
 | b :: l,cur=>by
  unfold cutG
  by_cases h:b=47
  ·
   simp [h,ahead]
  ·
   rw [if_neg h,if_neg h,cutG_ahead l (cur++[b]),cutG_ahead l ([]++[b])]
   cases hc:cutG [] l with
   | nil=>simp [ahead]
   | cons h t=>simp [ahead]
theorem cutG_ne (l cur:List UInt8):cutG cur l≠[]:=by
 induction l generalizing cur with
 | nil=>simp [cutG]
 | cons b l ih=>unfold cutG; split <;> simp [ih]
theorem cutG_snoc:∀ (l cur:List UInt8) (b:UInt8),cutG cur (l++[b])=if b=47 then cutG cur l++[[]] else (cutG cur l).dropLast++[(cutG cur l).getLastD []++[b]]
 | [],cur,b=>by
  by_cases h:b=47 <;> simp [cutG,h]
 | c :: l,cur,b=>by
  rw [List.cons_append]
  unfold cutG
  by_cases h:c=47
  ·
   rw [if_pos h,if_pos h,cutG_snoc l [] b]
   have hne:=cutG_ne l []
   split
   ·
    simp
   ·
    cases hc:cutG [] l with
    | nil=>exact absurd hc hne
    | cons x t=>simp
  ·
   rw [if_neg h,if_neg h,cutG_snoc l (cur++[c]) b]
theorem cutG_len:∀ (l cur:List UInt8),(cutG cur l).length≤l.length+1
 | [],cur=>by simp [cutG]
 | b :: l,cur=>by
  unfold cutG
  split
  ·
   have:=cutG_len l []; simp; omega
  ·
   have:=cutG_len l (cur++[b]); simp; omega
theorem index_one (c b:UInt8) (l:List UInt8) (h:¬ b=c):Lib.index (b :: l) [c]=if Lib.index l [c] == -1 then -1 else Lib.index l [c]+1:=by
 rw [Lib.index]
 have:([c].isPrefixOf (b :: l))=false:=by simp only [List.isPrefixOf,Bool.and_true,beq_eq_false_iff_ne,ne_eq]; exact fun e=>h e.symm
 rw [this]; simp
theorem index_same (c:UInt8) (l:List UInt8):Lib.index (c :: l) [c]=0:=by
 rw [Lib.index]; simp [List.isPrefixOf]
theorem index_there (c:UInt8):∀ (l:List UInt8),Lib.count l [c]≠0→∃ k:Nat,Lib.index l [c]=k
 | [],h=>by
  rw [Lib.count_one] at h
  simp at h
 | b :: l,h=>by
  by_cases e:b=c
  ·
   subst e; exact ⟨0,index_same b l⟩
  ·
   rw [Lib.count_cons_ne b c l e] at h
   obtain ⟨k,hk⟩:=index_there c l h
   refine ⟨k+1,?_⟩
   rw [index_one c b l e,hk]
   have:¬ ((k:Int) == -1)=true:=by simp
   rw [if_neg this]; omega
theorem splitK_cons (c b:UInt8) (l:List UInt8) (h:¬ b=c) (n:Nat) (hn:n=Lib.count l [c]):Lib.splitK [c] 0 n (b :: l)=ahead [b] (Lib.splitK [c] 0 n l):=by
 cases n with
 | zero=>simp [Lib.splitK,ahead]
 | succ n=>
  obtain ⟨k,hk⟩:=index_there c l (by omega)
  have e1:Lib.index (b :: l) [c]=((k+1:Nat):Int):=by
   rw [index_one c b l h,hk]
   have:¬ ((k:Int) == -1)=true:=by simp
   rw [if_neg this]; omega
  have n1:¬ (Lib.index (b :: l) [c] == -1)=true:=by rw [e1]; simp; omega
  have n2:¬ (Lib.index l [c] == -1)=true:=by rw [hk]; simp
  rw [Lib.splitK,if_neg n1,e1,Lib.splitK,if_neg n2,hk]
  simp [ahead]
theorem split_cut:∀ (l:List UInt8),Lib.splitK [47] 0 (Lib.count l [47]) l=cutG [] l
 | []=>by
  have:Lib.count [] [47]=0:=by rw [Lib.count_one]; rfl
  rw [this]; simp [Lib.splitK,cutG]
 | b :: l=>by
  by_cases h:b=47
  ·
   subst h
   rw [Lib.count_cons_eq,Nat.add_comm,Lib.splitK,index_same]
   simp [cutG,split_cut l]
  ·
   rw [Lib.count_cons_ne b 47 l h,splitK_cons 47 b l h _ rfl,split_cut l,cutG,if_neg h,cutG_ahead l ([]++[b])]
   simp
def partL:List UInt8:=[97,98,99,100,101,102,103,104,105,106,107,108,109,110,111,112,113,114,115,116,117,118,119,120,121,122,48,49,50,51,52,53,54,55,56,57,46,45,95]
theorem part_all:((List.range 256).all fun n=>decide (Lib.indexByte partL n.toUInt8<0) == !okB n.toUInt8)=true:=by decide +kernel
theorem part_in (b:UInt8):decide (Lib.indexByte partL b<0)=!okB b:=by
 have:=List.all_eq_true.1 part_all b.toNat (List.mem_range.2 b.toNat_lt)
 simpa using this
end Go.Proofs.YtemjckkocljgnaaGreatDoor

/- Of what the proof is made: 2 texts, one behind the other. -/
import Derived.Deep.RegionLawGrows
import Derived.Lib.Split
import Derived.Lib.SplitLaws
import Derived.Lib.IndexLaws
import Derived.KernelRfl
set_option linter.unusedSimpArgs false
set_option linter.unusedVariables false
namespace Go
theorem cP{P:Program}{ops:Array Oper}{o:Oper}{a:Act}{w:World}{K:Act->World->Prop}{Q:Exit->Act->World->Prop}{E:Prop}
  (hg:o.guard=none) (s x:Operand) (t:TypeId) (hop:o.op=Op.call { callee:=Callee.builtin Builtin.append,args:=#[s,x],argTypes:=#[t,t] })
  (base:Nat) (e:TypeId) (i:TypeInfo) (z:Value) (size bytes:Nat) (h1:P.underlying t=some (.slice e)) (h2:P.info? e=some i) (h3:i.zero=some z) (h4:i.size=size) (h5:i.bytes=bytes) (h6:z.cells.size=size) (h7:0<size)
  (v:Value) (n:Nat) (xs:List Value) (hs:a.eval s=v) (hown:w.ownsRow base e size v n xs)
  (ad:Addr) (m c:Nat) (news:List Value) (hx:a.eval x = .slice (some ad) m c) (hn:news.length=m*size) (hc:∀j u,news[j]?=some u->w.cell? (ad.add j)=some u) (h1c:∀u∈news,u.oneCell'=true)
  (b1:n+m<=maxLen) (b2:(n+m)*bytes<=140737488355328) (b3:base<=w.heap.size)
  (hK:∀v' w',w'.ownsRow base e size v' (n+m) (xs++news)->w.grownBy w' v.ownBlock->(v' = .slice none 0 0<->v = .slice none 0 0/\m=0)->K (a.put o.dst v') w') :
  if Region.wanted o (yielded ops a.tmps)=true then Oper.wp P o a w K Q else E:=by
 have hw:Region.wanted o (yielded ops a.tmps)=true:=by simp[Region.wanted,hg]
 rw[if_pos hw];obtain⟨v',w',hrun,r1,r2,r3⟩:=run_append_own (P:=P) w base t o.type e i z size bytes h1 h2 h3 h4 h5 h6 h7 v n xs hown ad m c news hn hc h1c b1 b2 b3;unfold Oper.wp;simp[execOp,hop,resolve,invoke,builtin,hs,hx,hrun,Result.andThen];exact hK v' w' r1 r2 r3
theorem gJ{P:Program}{ops:Array Oper}{o:Oper}{a:Act}{w:World}{K:Act->World->Prop}{Q:Exit->Act->World->Prop}{E:Prop}(d:Nat)(_:o.dst=some d)(h:if Region.wanted o (yielded ops a.tmps)=true then Oper.wp P o a w K Q else E):if Region.wanted o (yielded ops a.tmps)=true then Oper.wp P o a w K Q else E:=h
end Go
namespace Go.Proofs.YtfhdadkcophoaaaGreatDoor
open Go
def okB(b:UInt8):Bool:=decide (97<=b.toNat)&&decide (b.toNat<=122) || (decide (48<=b.toNat)&&decide (b.toNat<=57) || (b.toNat == 46 || (b.toNat == 45 || b.toNat == 95)))
def dR(p:List UInt8):Bool:=p.all okB&&(decide (1<=p.length)&&(decide (p.length<=10)&&(!(p == [46])&&!(p == [46,46]))))
def cG:List UInt8->List UInt8->List (List UInt8)
 | cur,[]=>[cur]
 | cur,b :: l=>if b=47 then cur :: cG [] l else cG (cur++[b]) l
def lL(l:List UInt8):List (List UInt8):=cG [] l
def gB(l:List UInt8):Bool:=(lL l).all dR&&decide ((lL l).length<=4)
def ahead(cur:List UInt8):List (List UInt8)->List (List UInt8)
 | []=>[cur]
 | h :: t=>(cur++h) :: t
theorem l8:∀(l cur:List UInt8),cG cur l=ahead cur (cG [] l)
 | [],cur=>by simp[cG,ahead]
 | b :: l,cur=>by
  unfold cG;by_cases h:b=47
  · simp[h,ahead]
  ·
   rw[if_neg h,if_neg h,l8 l (cur++[b]),l8 l ([]++[b])];cases hc:cG [] l with
   | nil=>simp[ahead]
   | cons h t=>simp[ahead]
theorem AG(l cur:List UInt8):cG cur l≠[]:=by
 induction l generalizing cur with
 | nil=>simp[cG]
 | cons b l ih=>unfold cG;split<;>simp[ih]
theorem lh:∀(l cur:List UInt8) (b:UInt8),cG cur (l++[b])=if b=47 then cG cur l++[[]]else(cG cur l).dropLast++[(cG cur l).getLastD []++[b]]
 | [],cur,b=>by
  by_cases h:b=47<;>simp[cG,h]
 | c :: l,cur,b=>by
  rw[List.cons_append];unfold cG;by_cases h:c=47
  ·
   rw[if_pos h,if_pos h,lh l [] b];have hne:=AG l []
   split
   · simp
   ·
    cases hc:cG [] l with
    | nil=>exact absurd hc hne
    | cons x t=>simp
  · rw[if_neg h,if_neg h,lh l (cur++[c]) b]
theorem mH:∀(l cur:List UInt8),(cG cur l).length<=l.length+1
 | [],cur=>by simp[cG]
 | b :: l,cur=>by
  unfold cG
  split
  · have:=mH l [];simp;omega
  · have:=mH l (cur++[b]);simp;omega
theorem index_one(c b:UInt8)(l:List UInt8)(h:¬ b=c):Lib.index (b :: l) [c]=if Lib.index l [c] == -1 then -1 else Lib.index l [c]+1:=by
 rw[Lib.index];have:([c].isPrefixOf (b :: l))=false:=by simp only[List.isPrefixOf,Bool.and_true,beq_eq_false_iff_ne,ne_eq];exact fun e=>h e.symm
 rw[this];simp
theorem qE(c:UInt8)(l:List UInt8):Lib.index (c :: l) [c]=0:=by
 rw[Lib.index];simp[List.isPrefixOf]
theorem oP(c:UInt8):∀(l:List UInt8),Lib.count l [c]≠0->∃k:Nat,Lib.index l [c]=k
 | [],h=>by
  rw[Lib.count_one]at h;simp at h
 | b :: l,h=>by
  by_cases e:b=c
  · subst e;exact⟨0,qE b l⟩
  ·
   rw[Lib.count_cons_ne b c l e]at h;obtain⟨k,hk⟩:=oP c l h;refine⟨k+1,?_⟩;rw[index_one c b l e,hk];have:¬ ((k:Int) == -1)=true:=by simp
   rw[if_neg this];omega
theorem xR(c b:UInt8)(l:List UInt8)(h:¬ b=c)(n:Nat)(hn:n=Lib.count l [c]):Lib.splitK [c] 0 n (b :: l)=ahead [b] (Lib.splitK [c] 0 n l):=by
 cases n with
 | zero=>simp[Lib.splitK,ahead]
 | succ n=>
  obtain⟨k,hk⟩:=oP c l (by omega);have e1:Lib.index (b :: l) [c]=((k+1:Nat):Int):=by
   rw[index_one c b l h,hk];have:¬ ((k:Int) == -1)=true:=by simp
   rw[if_neg this];omega
  have n1:¬ (Lib.index (b :: l) [c] == -1)=true:=by rw[e1];simp;omega
  have n2:¬ (Lib.index l [c] == -1)=true:=by rw[hk];simp
  rw[Lib.splitK,if_neg n1,e1,Lib.splitK,if_neg n2,hk];simp[ahead]
theorem oC:∀(l:List UInt8),Lib.splitK [47] 0 (Lib.count l [47]) l=cG [] l
 | []=>by
  have:Lib.count [] [47]=0:=by rw[Lib.count_one];rfl
  rw[this];simp[Lib.splitK,cG]
 | b :: l=>by
  by_cases h:b=47
  · subst h;rw[Lib.count_cons_eq,Nat.add_comm,Lib.splitK,qE];simp[cG,oC l]
  · rw[Lib.count_cons_ne b 47 l h,xR 47 b l h _ rfl,oC l,cG,if_neg h,l8 l ([]++[b])];simp
def xF:List UInt8:=[97,98,99,100,101,102,103,104,105,106,107,108,109,110,111,112,113,114,115,116,117,118,119,120,121,122,48,49,50,51,52,53,54,55,56,57,46,45,95]
theorem Hf:((List.range 256).all fun n=>decide (Lib.indexByte xF n.toUInt8<0) == !okB n.toUInt8)=true:=by decide +kernel
theorem Ks(b:UInt8):decide (Lib.indexByte xF b<0)=!okB b:=by
 have:=List.all_eq_true.1 Hf b.toNat (List.mem_range.2 b.toNat_lt);simpa using this
end Go.Proofs.YtfhdadkcophoaaaGreatDoor

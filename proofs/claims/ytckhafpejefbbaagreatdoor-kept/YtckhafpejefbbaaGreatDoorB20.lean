/- Texts of the proof, put together: RegQuiet. -/
import Derived.Test.YtckhafpejefbbaaGreatDoorB17
import Derived.Sort.BigQuietIn

set_option maxRecDepth 100000
set_option maxHeartbeats 4000000
namespace Go.Proofs.YtckhafpejefbbaaGreatDoor
open Go Go.RowKit
variable {P : Program} {n : Nat}
theorem ztl (lr:Nat) {F:Fence} (hro:F.round=none) {o:Oper} (hd:∀c,o.op ≠ .defer c) {a:Act} {w:World} {K:Act->World->Prop} {Q:Exit->Act->World->Prop} (h:o.wpIn F n P a w K Q):o.wpIn (F.inRound lr) n P a w K Q:=by
 unfold Oper.wpIn at h ⊢
 refine ⟨h.1,?_⟩
 have h2:=h.2
 rw [hro] at h2
 rw [show (F.inRound lr).round=some lr from rfl,Oper.semAt_some lr a.eval o hd]
 exact h2
theorem zlv (lr:Nat) {F:Fence} (hro:F.round=none) {md:Region.Mode} {ops:Array Oper} {Q:Exit->Act->World->Prop} (hd:∀(i:Nat) (o:Oper),ops[i]? = some o->∀c,o.op ≠ .defer c) :
  ∀(fuel:Nat) (listed:Array Bool) (a:Act) (w:World),wpAnyIn F n P md ops Q fuel listed a w->wpAnyIn (F.inRound lr) n P md ops Q fuel listed a w
 | 0,_,_,_,h=>h
 | fuel+1,listed,a,w,h=>by
  refine ⟨h.1,fun i hi => ?_⟩
  have h2:=wpOpIn_mono (K':=wpAnyIn (F.inRound lr) n P md ops Q fuel (listed.setIfInBounds i true)) (fun a w=>zlv lr hro hd fuel _ a w) (h.2 i hi)
  unfold wpOpIn at h2 ⊢
  split
  ·rename_i ho
   simp only [ho] at h2
   exact h2
  ·rename_i o ho
   simp only [ho] at h2
   split
   ·rename_i hw
    simp only [hw,if_true] at h2
    exact ztl lr hro (hd i o ho) h2
   ·rename_i hw
    simp only [hw] at h2
    exact h2
def zt4 (l:List Oper):Bool:=l.all fun o=>match o.op with | .defer _=>false | _=>true
theorem znd {l:List Oper} (h:zt4 l=true):∀(i:Nat) (o:Oper),l.toArray[i]? = some o->∀c,o.op ≠ .defer c:=by
 intro i o ho c hc
 have hm:o∈l:=by
  have:=Array.mem_of_getElem? ho
  simpa using this
 have:=List.all_eq_true.1 h o hm
 rw [hc] at this
 simp at this
theorem zcj (lr:Nat) {id:Nat} {Q:Exit->Act->World->Prop} {a:Act} {w:World} {l:List Oper} (hm:P.follows .mixedOrders=true) (hB:Region.lexB .any l.toArray=true) (hd:zt4 l=true)
  (h:wpQuietIn Fence.wide n P l.toArray (fun w'=>∃n,w'=w.drewN n) (fun a'=>∀w',(∃n,w'=w.drewN n)->Q .normal a' w') l a):(Code.region id l.toArray true).wpIn (Fence.wide.inRound lr) n P Q a w:=by
 simp only [Region.lexB,Bool.and_eq_true] at hB
 refine wpIn_region_any hm (zlv lr rfl (znd hd) _ _ _ _ (wpAnyIn_of_quiet (C:=fun w'=>∃n,w'=w.drewN n) (Q:=fun a'=>∀w',(∃n,w'=w.drewN n)->Q .normal a' w') rfl (fun _ w' hw' h=>h w' hw') _ _ _ _ ⟨1,rfl⟩ ?_))
 have:=wpAnyQIn_lex (F:=Fence.wide) (n:=n) (P:=P) (C:=fun w'=>∃n,w'=w.drewN n) (md:=.any) hB.1 l 0 (Array.replicate l.toArray.size false) a (by simp) (by simpa using hB.2) (by simpa using h)
 simpa using this
theorem za4 (w:World) (k:Nat):w.grownBy (w.drewN k) none:=⟨rfl,rfl,rfl,znL _,fun _ _ _=>rfl⟩
end Go.Proofs.YtckhafpejefbbaaGreatDoor

/- Jb, Jc. -/
import Derived.Test.YtimbaebigjjkaaaGreatDoorP39
import Derived.Lib.IndexAny
import Derived.Lib.IndexLaws
import Derived.Shelf.Small.Strs
namespace Go.Proofs.YtimbaebigjjkaaaGreatDoor
open Go.RowKit
theorem Tr.between_cons (a b:Int) (x:Tr.Gr) (r:List Tr.Gr):Xt a b (x :: r)=(decide (a≤x.nd.kind) && decide (x.nd.kind≤b) && Xt a b r):=rfl
set_option maxHeartbeats 400000 in
theorem kinds_nil (p:Option Addr) (c:Nat) (a b:Int) (w:World) :
  Calls Tryz.prog 71 #[.slice p 0 c,.int .i64 a,.int .i64 b] w fun e w'=>e = .returned (.bool true)∧Below w.heap.size w w':=by
 go_enter Tryz.func71,Tryz.ntmps71
 go_wp2
 go_loop [11] (fun t=>t = .int .i64 0) (fun _=>0)
 case atStart=>rfl
 case round =>
  subst hrel
  go_wp2
  go_ret
  exact ⟨rfl,Below.refl _ _⟩
set_option maxRecDepth 100000 in
set_option maxHeartbeats 1000000 in
theorem kinds_some (l:List Tr.Gr) (g o c:Nat) (a b:Int) (w:World) (hl:l.length≤1048576) (ht:GrAt w g o l) :
  Calls Tryz.prog 71 #[.slice (some ⟨g,o,none⟩) l.length c,.int .i64 a,.int .i64 b] w fun e w'=>e = .returned (.bool (Xt a b l))∧Below w.heap.size w w':=by
 have HT:=X1 ht
 clear ht
 go_enter Tryz.func71,Tryz.ntmps71
 go_wp2
 go_loopw [11] (fun t wr=>∃ j:Nat,j≤l.length∧t = .int .i64 j∧Below w.heap.size w wr∧Xt a b l=Xt a b (l.drop j)) (fun t _=>l.length - (intOf t).toNat)
 case atStart=>exact ⟨0,Nat.zero_le _,rfl,Below.refl _ _,by simp⟩
 case round =>
  obtain ⟨j,hj,rfl,hB,he⟩:=hrel
  have HE:=X1 he
  clear he
  by_cases hlt:j < l.length
  ·obtain ⟨c0,c1,c2,c3,c4,c5⟩:=(HT.o.below hB).2 j hlt
   have HS:=X1 (show Xt a b l=(decide (a≤l[j].nd.kind) && decide (l[j].nd.kind≤b) && Xt a b (l.drop (j+1))) by rw [HE.o,List.drop_eq_getElem_cons hlt,Tr.between_cons])
   generalize l[j].nd.kind=kj at *
   by_cases h1:kj < a
   ·go_wp2
    go_ret
    refine ⟨X8 ?_,hB.alloc hB.size _⟩
    rw [HS.o,decide_eq_false (by omega:¬ a≤kj)];rfl
   ·by_cases h2:b < kj
    ·go_wp2
     go_ret
     refine ⟨X8 ?_,hB.alloc hB.size _⟩
     rw [HS.o,decide_eq_false (by omega:¬ kj≤b)];simp
    ·go_wp2
     go_roundw
     case rel=>exact ⟨j+1,by omega,by go_num,hB.alloc hB.size _,by rw [HS.o,decide_eq_true (by omega:a≤kj),decide_eq_true (by omega:kj≤b)];simp⟩
     case measure=>simp [intOf];omega
  ·go_wp2
   go_ret
   refine ⟨X8 ?_,hB⟩
   rw [HE.o,List.drop_of_length_le (by omega)];rfl
theorem YF (l:List Tr.Gr) (v:Value) (a b:Int) (w:World) (hl:l.length≤1048576) (ht:GrV w v l) :
  Calls Tryz.prog 71 #[v,.int .i64 a,.int .i64 b] w fun e w'=>e = .returned (.bool (Xt a b l))∧Below w.heap.size w w':=by
 rcases ht with ⟨p,c,rfl,rfl⟩ | ⟨g,o,c,rfl,_,h⟩
 ·exact kinds_nil p c a b w
 ·exact kinds_some l g o c a b w hl h
theorem Tr.over_at (l:List Tr.Gr) (j h:Nat) (hj:j < l.length):Yo (l.drop j) h=Yo (l.drop (j+1)) (if h < l[j].high+1 then l[j].high+1 else h):=by
 rw [List.drop_eq_getElem_cons hj];rfl
set_option maxHeartbeats 400000 in
theorem height_nil (p:Option Addr) (c:Nat) (w:World) :
  Calls Tryz.prog 49 #[.slice p 0 c] w fun e w'=>e = .returned (.int .i64 0)∧Below w.heap.size w w':=by
 go_enter Tryz.func49,Tryz.ntmps49
 go_wp2
 go_loop [3,8] (fun a t=>a = .int .i64 0∧t = .int .i64 0) (fun _ _=>0)
 case atStart=>exact ⟨rfl,rfl⟩
 case round =>
  obtain ⟨rfl,rfl⟩:=hrel
  go_wp2
  go_ret
  exact ⟨rfl,Below.refl _ _⟩
set_option maxRecDepth 100000 in
set_option maxHeartbeats 1000000 in
theorem height_some (l:List Tr.Gr) (g o c:Nat) (w:World) (hl:l.length≤1048576) (hh:∀ x∈l,x.high≤1048576) (ht:GrAt w g o l) :
  Calls Tryz.prog 49 #[.slice (some ⟨g,o,none⟩) l.length c] w fun e w'=>e = .returned (.int .i64 (Yo l 0))∧Below w.heap.size w w':=by
 have HT:=X1 ht
 have HH:=X1 hh
 clear ht hh
 go_enter Tryz.func49,Tryz.ntmps49
 go_wp2
 go_loopw [3,8] (fun a t wr=>∃ j h:Nat,j≤l.length∧t = .int .i64 j∧a = .int .i64 h∧h≤1048577∧Below w.heap.size w wr∧Yo l 0=Yo (l.drop j) h) (fun _ t _=>l.length - (intOf t).toNat)
 case atStart=>exact ⟨0,0,Nat.zero_le _,rfl,rfl,by omega,Below.refl _ _,by simp⟩
 case round =>
  obtain ⟨j,h,hj,rfl,rfl,hh,hB,he⟩:=hrel
  have HE:=X1 he
  clear he
  by_cases hlt:j < l.length
  ·obtain ⟨c0,c1,c2,c3,c4,c5⟩:=(HT.o.below hB).2 j hlt
   have HS:=X1 (show Yo l 0=Yo (l.drop (j+1)) (if h < l[j].high+1 then l[j].high+1 else h) by rw [HE.o,Tr.over_at l j h hlt])
   have hy:=HH.o _ (List.getElem_mem hlt)
   generalize l[j].high=y at *
   by_cases hc:(h:Int) < (y:Int)+1
   ·go_wp2
    go_roundw
    case rel=>exact ⟨j+1,y+1,by omega,by go_num,by first | go_num | (congr 1;omega),by omega,hB.alloc hB.size _,by rw [HS.o,if_pos (by omega)]⟩
    case measure=>simp [intOf];omega
   ·go_wp2
    go_roundw
    case rel=>exact ⟨j+1,h,by omega,by go_num,by first | rfl | (congr 1;omega),by omega,hB.alloc hB.size _,by rw [HS.o,if_neg (by omega)]⟩
    case measure=>simp [intOf];omega
  ·go_wp2
   go_ret
   refine ⟨J9 ?_,hB⟩
   rw [HE.o,List.drop_of_length_le (by omega)];rfl
theorem Ju (l:List Tr.Gr) (v:Value) (w:World) (hl:l.length≤1048576) (hh:∀ x∈l,x.high≤1048576) (ht:GrV w v l) :
  Calls Tryz.prog 49 #[v] w fun e w'=>e = .returned (.int .i64 (Yo l 0))∧Below w.heap.size w w':=by
 rcases ht with ⟨p,c,rfl,rfl⟩ | ⟨g,o,c,rfl,_,h⟩
 ·exact height_nil p c w
 ·exact height_some l g o c w hl hh h
def KJ (L:List (List UInt8)) (x:List UInt8):List (List UInt8):=if x∈L then L else L++[x]
theorem Tr.addKey_S (L:List (List UInt8)) (x:List UInt8):Maps.addKey (L.map Lit.string) (.string x)=(KJ L x).map Lit.string:=by
 unfold Maps.addKey KJ
 have h:(L.map Lit.string).any (fun y=>y.sameKey (.string x))=decide (x∈L):=by
  rw [Bool.eq_iff_iff]
  simp [Lit.sameKey]
 rw [h]
 by_cases e:x∈L
 ·simp [e]
 ·simp [e]
theorem Tr.fold_S (xs L:List (List UInt8)):(xs.map Lit.string).foldl Maps.addKey (L.map Lit.string)=(xs.foldl KJ L).map Lit.string:=by
 induction xs generalizing L with
 | nil=>rfl
 | cons x r ih=>rw [List.map_cons,List.foldl_cons,List.foldl_cons,Tr.addKey_S,ih]
theorem Tr.fold_len (xs L:List (List UInt8)):(xs.foldl KJ L).length≤L.length+xs.length∧((xs.foldl KJ L).length=L.length+xs.length↔xs.Nodup∧∀ x∈xs,x∉L):=by
 induction xs generalizing L with
 | nil=>simp
 | cons x r ih =>
  rw [List.foldl_cons]
  by_cases e:x∈L
  ·have h1:=(ih L).1
   have:KJ L x=L:=if_pos e
   rw [this]
   refine ⟨by simp only [List.length_cons];omega,⟨fun h=>?_,fun h=>absurd e (h.2 x (by simp))⟩⟩
   simp only [List.length_cons] at h
   omega
  ·have h1:=ih (L++[x])
   have:KJ L x=L++[x]:=if_neg e
   rw [this]
   simp only [List.length_append,List.length_cons,List.length_nil] at h1 ⊢
   refine ⟨by omega,?_⟩
   rw [show (r.foldl KJ (L++[x])).length=L.length+(r.length+1)↔(r.foldl KJ (L++[x])).length=L.length+(0+1)+r.length from by omega,h1.2]
   simp only [List.nodup_cons,List.mem_append,List.mem_cons,List.not_mem_nil,or_false]
   constructor
   ·rintro ⟨a,b⟩
    exact ⟨⟨fun h=>(b x h) (.inr rfl),a⟩,fun y hy=>by
     rcases hy with rfl | hy
     ·exact e
     ·exact fun h=>b y hy (.inl h)⟩
   ·rintro ⟨⟨a,b⟩,c⟩
    exact ⟨b,fun y hy h=>by
     rcases h with h | rfl
     ·exact c y (.inr hy) h
     ·exact a hy⟩
def K0 (l:List Tr.Gr):List Lit:=l.map fun g=>Lit.string g.nd.text.data.toList
theorem Tr.keys_ok (l:List Tr.Gr):∀ x∈K0 l,WideAt.IsKeyLit x:=by
 intro x hx
 simp only [K0,List.mem_map] at hx
 obtain ⟨y,_,rfl⟩:=hx
 trivial
theorem Tr.differ_size (l:List Tr.Gr):(Maps.size (Maps.setOf (H:=Unit) (.agg []) (K0 l))=l.length↔YW l=true)∧Maps.size (Maps.setOf (H:=Unit) (.agg []) (K0 l))≤l.length:=by
 have e:K0 l=(l.map fun g=>g.nd.text.data.toList).map Lit.string:=by simp [K0]
 have h:=Tr.fold_len (l.map fun g=>g.nd.text.data.toList) []
 have f:=Tr.fold_S (l.map fun g=>g.nd.text.data.toList) []
 rw [Maps.size_setOf _ _ (Tr.keys_ok l),e,show ([]:List Lit)=List.map Lit.string [] from rfl,f,List.length_map]
 simp only [List.length_nil,Nat.zero_add,List.length_map] at h
 refine ⟨h.2.trans ?_,h.1⟩
 unfold YW
 rw [decide_eq_true_iff]
 simp only [List.not_mem_nil,not_false_eq_true,implies_true,and_true]
 rw [List.nodup_iff_pairwise_ne,List.nodup_iff_pairwise_ne,List.pairwise_map,List.pairwise_map]
 constructor
 ·intro q;exact q.imp fun hne e=>hne (by rw [e])
 ·intro q;exact q.imp fun hne e=>hne (ByteArray.ext (Array.toList_inj.1 e))
theorem lawS:Maps.Keyed Tryz.prog 9:=Maps.string_keyed Tryz.underlying9
theorem zeroU (w:World):(zeroValue 46).run Tryz.prog w = .ok (.agg #[]) w:=by kernel_rfl
set_option maxHeartbeats 400000 in
theorem texts_nil (p:Option Addr) (c:Nat) (w:World) :
  Calls Tryz.prog 72 #[.slice p 0 c] w fun e w'=>e = .returned (.bool true)∧Below w.heap.size w w':=by
 have hmm:=@run_makeMap Tryz.prog
 have hm0:=World.ownsMap_made (H:=Unit) w Tryz.prog 9 unitElem
 go_enter Tryz.func72,Tryz.ntmps72
 go_wp2
 go_loopw [9] (fun t wr=>t = .int .i64 0∧wr=w.alloc (.map #[] 0)) (fun _ _=>0)
 case atStart=>exact ⟨rfl,rfl⟩
 case round =>
  obtain ⟨rfl,rfl⟩:=hrel
  go_wp2_with (at_len;refine wpList_len_own _ rfl _ 77 rfl 9 46 Tryz.underlying77 _ w.heap.size _ _ rfl hm0 ?_)
  go_ret
  exact ⟨rfl,bA _⟩
set_option maxRecDepth 100000 in
set_option maxHeartbeats 1000000 in
theorem texts_some (l:List Tr.Gr) (g o c:Nat) (w:World) (hl:l.length≤1048576) (hh:∀ x∈l,x.nd.text.size≤1048576) (ht:GrAt w g o l) :
  Calls Tryz.prog 72 #[.slice (some ⟨g,o,none⟩) l.length c] w fun e w'=>e = .returned (.bool (YW l))∧Below w.heap.size w w':=by
 have hmm:=@run_makeMap Tryz.prog
 have hm0:=World.ownsMap_made (H:=Unit) w Tryz.prog 9 unitElem
 have hb0:Below w.heap.size w (w.alloc (.map #[] 0)):=bA _
 have HT:=X1 ht
 have HH:=X1 hh
 have HM:=X1 hm0
 clear ht hh hm0
 go_enter Tryz.func72,Tryz.ntmps72
 go_wp2
 go_loopw [9] (fun t wr=>∃ j:Nat,j≤l.length∧t = .int .i64 j∧Below w.heap.size w wr∧w.heap.size < wr.heap.size∧wr.ownsMap (H:=Unit) Tryz.prog 9 unitElem w.heap.size j (Maps.setOf (.agg []) (K0 (l.take j)))) (fun t _=>l.length - (intOf t).toNat)
 case atStart=>exact ⟨0,Nat.zero_le _,rfl,hb0,by simp,HM.o⟩
 case round =>
  obtain ⟨j,hj,rfl,hB,hz,a2⟩:=hrel
  have HO:=X1 a2
  clear a2
  by_cases hlt:j < l.length
  ·obtain ⟨c0,c1,c2,c3,c4,c5⟩:=(HT.o.below hB).2 j hlt
   have hy:=HH.o _ (List.getElem_mem hlt)
   have HK:=X1 (show Maps.setOf (H:=Unit) (.agg []) (K0 (l.take (j+1)))=(Maps.setOf (.agg []) (K0 (l.take j))).put (.string l[j].nd.text.data.toList) (.agg []) by
    rw [← Maps.setOf_snoc];congr 1;unfold K0;rw [List.take_succ_eq_append_getElem hlt,List.map_append];rfl)
   have HY:Hid (keyOf Tryz.prog 9 (.string l[j].nd.text)=some (.string l[j].nd.text.data.toList)):=X1 (WideMaps.keyOf_string_mk Tryz.underlying9 (by unfold maxLen;omega))
   generalize l[j].nd.text=tx at *
   go_wp2_with (at_mapUpdate;refine wpList_mapUpdate_own _ rfl _ _ _ 77 rfl 9 46 lawS Tryz.underlying77 _ w.heap.size j _ rfl (HO.o.alloc _) (by unfold maxLen;omega) _ _ _ rfl rfl HY.o _ [] unitElem_mk ?_)
   intro w1 a1 a0
   have hB1:Below w.heap.size w w1:=(hB.alloc hB.size _).grown a0 (by simp;omega) (fun k e=>by cases e;exact Nat.le_refl _)
   have hz1:w.heap.size < w1.heap.size:=by have:=a0.size;simp at this;omega
   rw [← HK.o] at a1
   go_wp2
   go_roundw
   case rel=>exact ⟨j+1,by omega,by go_num,hB1,hz1,a1⟩
   case measure=>simp [intOf];omega
  ·have hq:=Tr.differ_size l
   have HL:Hid (wr.ownsMap (H:=Unit) Tryz.prog 9 unitElem w.heap.size j (Maps.setOf (.agg []) (K0 l))):=X1 (by have:=HO.o;rwa [List.take_of_length_le (by omega)] at this)
   generalize Maps.setOf (H:=Unit) (.agg []) (K0 l)=D at *
   go_wp2_with (at_len;refine wpList_len_own _ rfl _ 77 rfl 9 46 Tryz.underlying77 _ w.heap.size j D rfl HL.o ?_)
   all_goals
    go_ret
    refine ⟨X8 ?_,hB⟩
    rw [Bool.eq_iff_iff,← hq.1]
    simp
    omega
theorem texts_any (l:List Tr.Gr) (v:Value) (w:World) (hl:l.length≤1048576) (hh:∀ x∈l,x.nd.text.size≤1048576) (ht:GrV w v l) :
  Calls Tryz.prog 72 #[v] w fun e w'=>e = .returned (.bool (YW l))∧Below w.heap.size w w':=by
 rcases ht with ⟨p,c,rfl,rfl⟩ | ⟨g,o,c,rfl,_,h⟩
 ·exact texts_nil p c w
 ·exact texts_some l g o c w hl hh h
end Go.Proofs.YtimbaebigjjkaaaGreatDoor
namespace Go.Proofs
def Tryz.lays137_ren:Go.Shelf.Ren:=⟨fun | 137=>96 | 217=>108 | 266=>120 | n=>n,fun | 9=>9 | 5=>5 | 3=>3 | n=>n,fun | n=>n⟩
theorem Tryz.lays137:Go.Proofs.Lays.n137 Tryz.prog Tryz.lays137_ren:={
 mixed:=by kernel_rfl
 f137:=Tryz.func96.trans (congrArg some (by kernel_rfl))
 f217:=Tryz.func108.trans (congrArg some (by kernel_rfl))
 f266:=Tryz.func120.trans (congrArg some (by kernel_rfl))
 t3:=Tryz.underlying3
 a3:=Tryz.isAgg3
 z3:=Tryz.sizeOf3
 v3:=Tryz.zeroValue3
 t5:=Tryz.underlying5
 a5:=Tryz.isAgg5
 z5:=Tryz.sizeOf5
 v5:=Tryz.zeroValue5
 t9:=Tryz.underlying9
 a9:=Tryz.isAgg9
 z9:=Tryz.sizeOf9
 v9:=Tryz.zeroValue9}
open Go.RowKit in
theorem Tryz.strings_IndexByte (s:ByteArray) (c:Int) (w:World) :
  Calls Tryz.prog 96 #[.string s,.int .u8 c] w fun e w'=>e = .returned (.int .i64 (Lib.indexByte s.data.toList c.toNat.toUInt8))∧w'=w:=Any.strings_IndexByte Tryz.lays137 s c w
end Go.Proofs
namespace Go.Proofs.YtimbaebigjjkaaaGreatDoor
open Go.RowKit
set_option maxHeartbeats 400000 in
theorem idigit_any (b:UInt8) (w:World):Calls Tryz.prog 66 #[.int .u8 b.toNat] w fun e w'=>e = .returned (.bool (Sc.dig b))∧w'=w:=by
 by_cases h1:48≤(b.toNat:Int)
 all_goals by_cases h2:(b.toNat:Int)≤57
 all_goals
  go_enter Tryz.func66,Tryz.ntmps66
  go_wp2
  go_ret
  exact ⟨X8 (by simp [Sc.dig];omega),rfl⟩
set_option maxHeartbeats 400000 in
theorem iname_any (b:UInt8) (w:World):Calls Tryz.prog 95 #[.int .u8 b.toNat] w fun e w'=>e = .returned (.bool (Sc.nm b))∧w'=w:=by
 have hn:Sc.nm b=(Sc.beg b || Sc.dig b):=rfl
 rw [hn];clear hn
 have hb:Sc.beg b=(decide (97≤(b.toNat:Int)) && decide ((b.toNat:Int)≤122) || ((b.toNat:Int) == 95)):=by rw [Bool.eq_iff_iff];simp [Sc.beg];omega
 have HB:=X1 hb
 clear hb
 by_cases h1:97≤(b.toNat:Int)
 all_goals by_cases h2:(b.toNat:Int)≤122
 all_goals cases h3:((b.toNat:Int) == 95)
 all_goals
  go_enter Tryz.func95,Tryz.ntmps95
  go_wp2_with (go_at_call 66;refine (idigit_any _ _).mono ?_;rintro e w' ⟨rfl,rfl⟩)
  go_ret
  exact ⟨X8 (by rw [HB.o];simp [h1,h2,h3];try omega),rfl⟩
theorem Tr.twc_neg {b:UInt8} {r:List UInt8} (h:Sc.nm b=false):(b :: r).takeWhile Sc.nm=[]:=by simp [h]
theorem Tr.twc_pos {b:UInt8} {r:List UInt8} (h:Sc.nm b=true):((b :: r).takeWhile Sc.nm).length=(r.takeWhile Sc.nm).length+1:=by simp [h]
set_option maxHeartbeats 400000 in
theorem nameSize_any (s:ByteArray) (w:World) (hs:s.size≤1048576) :
  Calls Tryz.prog 67 #[.string s] w fun e w'=>e = .returned (.int .i64 ((s.data.toList.takeWhile Sc.nm).length:Nat))∧w'=w:=by
 go_enter Tryz.func67,Tryz.ntmps67
 go_wp2
 go_loop [3] (fun t=>∃ j:Nat,j≤s.size∧t = .int .i64 j∧j+((s.data.toList.drop j).takeWhile Sc.nm).length=(s.data.toList.takeWhile Sc.nm).length) (fun t=>s.size - (intOf t).toNat)
 case atStart=>exact ⟨0,Nat.zero_le _,rfl,by simp⟩
 case round =>
  obtain ⟨j,hj,rfl,he⟩:=hrel
  have HE:=X1 he
  clear he
  by_cases hlt:j < s.size
  ·have hd:=X1 (Sc.drop_cons s j hlt)
   cases hn:Sc.nm s[j]
   ·go_wp2_with (go_at_call 95;refine (iname_any _ _).mono ?_;rintro e w' ⟨rfl,rfl⟩)
    go_ret
    refine ⟨J9 ?_,rfl⟩
    have e:=HE.o
    rw [hd.o,Tr.twc_neg hn] at e
    simp at e
    omega
   ·go_wp2_with (go_at_call 95;refine (iname_any _ _).mono ?_;rintro e w' ⟨rfl,rfl⟩)
    go_round
    case rel =>
     refine ⟨j+1,by omega,by go_num,?_⟩
     have e:=HE.o
     rw [hd.o,Tr.twc_pos hn] at e
     omega
    case measure=>simp [intOf];omega
  ·go_wp2
   go_ret
   refine ⟨J9 ?_,rfl⟩
   have e:=HE.o
   rw [List.drop_of_length_le (i:=j) (by simp;omega)] at e
   simp at e
   omega
def Sc.wordMap {H:Type}:DataW H:=Maps.setOf (.agg []) (Sc.words.map Lit.string)
theorem Sc.has_word {H:Type} (l:List UInt8):Maps.has (Sc.wordMap (H:=H)) (.string l)=decide (l∈Sc.words):=by
 unfold Sc.wordMap
 rw [Maps.has_setOf]
 ·rw [Bool.eq_iff_iff]
  simp [Lit.sameKey]
 ·intro x hx
  simp only [List.mem_map] at hx
  obtain ⟨y,_,rfl⟩:=hx
  trivial
theorem wpList_insert_own {H:Type} {P:Program} (w:World) {ops:Array Oper} {rest:List Oper} {o:Oper} {a:Act} {Q:Exit→Act→World→Prop}
  (hg:o.guard=none) (m x v:Operand) (t:TypeId) (hop:o.op=Op.insert t m x v)
  (k e:TypeId) (K:Maps.Keyed P k) (ht:P.underlying t=some (.map k e)) (R:Value→Option (DataW H × List MemPlace)) (b n:Nat) (D:DataW H)
  (hm:a.eval m = .map (some b)) (hown:w.ownsMap P k R b n D) (hn:n < maxLen) (key val:Value) (kl:Lit) (hx:a.eval x=key) (hv:a.eval v=val) (hkey:keyOf P k key=some kl)
  (d:DataW H) (ps:List MemPlace) (hval:R val=some (d,ps))
  (hK:∀ w',w'.ownsMap P k R b (n+1) (D.put kl d)→w.grownBy w' (some b)→wpList P ops Q rest (a.put o.dst undef) w') :
  wpList P ops Q (o :: rest) a w:=by
 refine wpList_plain hg fun K' hK'=>?_
 obtain ⟨w',hrun,r1,r2⟩:=hown.update K ht hn hkey hval
 unfold Oper.wp
 simp [execOp,hop,hm,hx,hv,hrun,Result.andThen]
 exact hK' _ _ (hK w' r1 r2)
set_option maxRecDepth 100000 in
set_option maxHeartbeats 1000000 in
theorem wordSet_any (w:World):Calls Tryz.prog 40 #[] w fun e w'=>e = .returned (.map (some w.heap.size))∧w'.ownsMap (H:=Unit) Tryz.prog 9 unitElem w.heap.size 17 Sc.wordMap∧Below w.heap.size w w':=by
 have hmm:=@run_makeMap Tryz.prog
 have b:=World.ownsMap_made (H:=Unit) w Tryz.prog 9 unitElem
 have a:Below w.heap.size w (w.alloc (.map #[] 0)):=bA _
 go_enter Tryz.func40,Tryz.ntmps40
 go_wp2_with (show wpList _ _ _ ({dst:=_,op:=Op.insert _ _ _ _,type:=_,pos:=_,after:=_,guard:=_} :: _) _ _;go_must (refine wpList_insert_own _ rfl _ _ _ 77 rfl 9 46 lawS Tryz.underlying77 _ w.heap.size _ _ rfl b (by unfold maxLen;decide) _ _ _ rfl rfl (WideMaps.keyOf_string_mk Tryz.underlying9 (by unfold maxLen;decide)) _ [] unitElem_mk ?_);go_must (intro w1 hm1 hg1;replace a:=a.grown hg1 a.size (fun k e=>by cases e;exact Nat.le_refl _);replace b:=hm1;clear hm1 hg1))
 go_ret
 exact ⟨rfl,b,a⟩
theorem Tr.tw_all (l:List UInt8):Yy Sc.nm l=decide ((l.takeWhile Sc.nm).length=l.length):=by
 induction l with
 | nil=>rfl
 | cons b r ih =>
  rw [ZL,ih]
  cases h:Sc.nm b
  ·simp [h]
  ·simp [h]
theorem Tr.beg_nm (b:UInt8) (h:Sc.nm b=true):Sc.beg b=!Sc.dig b:=by
 have hn:Sc.nm b=(Sc.beg b || Sc.dig b):=rfl
 have:Sc.beg b=true→Sc.dig b=false:=by intro h;simp [Sc.beg,Sc.dig] at h ⊢;omega
 cases hb:Sc.beg b
 ·rw [hn,hb] at h;simp at h;simp [h]
 ·rw [this hb];rfl
theorem Tr.nameOk_form (s:ByteArray) (h:0 < s.size):XZ s=(!decide (30 < (s.size:Int)) && !Sc.dig s[0] && !decide (s.data.toList∈Sc.words) && decide ((s.data.toList.takeWhile Sc.nm).length=s.size)):=by
 have hd:s.data.toList=s[0] :: s.data.toList.drop 1:=by simpa using Sc.drop_cons s 0 h
 have hh:s.data.toList.head?=some s[0]:=by rw [hd];rfl
 have hl:s.data.toList.length=s.size:=by simp
 unfold XZ
 rw [hh,Tr.tw_all,hl]
 have e1:Xn s.size 1 30=!decide (30 < (s.size:Int)):=by unfold Xn;rw [Bool.eq_iff_iff];simp;omega
 rw [e1]
 by_cases ha:(s.data.toList.takeWhile Sc.nm).length=s.size
 ·have a0:Yy Sc.nm s.data.toList=true:=by rw [Tr.tw_all,hl];simpa using ha
  rw [hd,ZL,Bool.and_eq_true] at a0
  rw [Option.map_some,Tr.beg_nm _ a0.1]
  cases Sc.dig s[0] <;> simp
 ·simp [ha]
theorem Tr.nameOk_empty (s:ByteArray) (h:s.size=0):XZ s=false:=by
 unfold XZ
 rw [h];rfl
theorem ba_empty (s:ByteArray):(s.toList == [])=decide (s.size=0):=by
 rw [Lib.toList_data,Bool.eq_iff_iff]
 simp [← Array.size_eq_zero_iff]
set_option maxRecDepth 100000 in
set_option maxHeartbeats 1000000 in
theorem isName_any (s:ByteArray) (b:Nat) (w:World) (hs:s.size≤1048576) (hm:w.ownsMap (H:=Unit) Tryz.prog 9 unitElem b 17 Sc.wordMap) :
  Calls Tryz.prog 39 #[.string s,.map (some b)] w fun e w'=>e = .returned (.bool (XZ s))∧Below w.heap.size w w':=by
 have a:=ba_empty s
 have HM:=X1 hm
 clear hm
 by_cases h0:s.size=0
 ·have h1:(s.toList == [])=true:=by rw [a];simpa using h0
  have HN:=X1 (Tr.nameOk_empty s h0)
  clear a
  go_enter Tryz.func39,Tryz.ntmps39
  go_wp2
  go_ret
  exact ⟨X8 HN.o.symm,Below.refl _ _⟩
 ·have h1:(s.toList == [])=false:=by rw [a];simpa using h0
  have a1:0 < s.size:=by omega
  have HN:=X1 (Tr.nameOk_form s a1)
  clear a
  by_cases h30:30 < (s.size:Int)
  ·go_enter Tryz.func39,Tryz.ntmps39
   go_wp2
   go_ret
   exact ⟨X8 (by rw [HN.o];simp [h30]),Below.refl _ _⟩
  ·cases hdg:Sc.dig s[0]
   ·have HK:Hid (keyOf Tryz.prog 9 (.string s)=some (.string s.data.toList)):=X1 (WideMaps.keyOf_string_mk Tryz.underlying9 (by unfold maxLen;omega))
    have a0:=Sc.has_word (H:=Unit) s.data.toList
    cases hw:decide (s.data.toList∈Sc.words)
    all_goals
     rw [hw] at a0
     go_enter Tryz.func39,Tryz.ntmps39
     go_wp2_with (first | (go_at_call 66;refine (idigit_any _ _).mono ?_;rintro e w' ⟨rfl,rfl⟩) | (at_lookup;refine wpList_lookup_own_unit _ rfl _ _ 77 rfl 9 46 lawS Tryz.underlying77 (zeroU _) b 17 Sc.wordMap rfl HM.o _ _ rfl HK.o ?_) | (go_at_call 67;refine (nameSize_any _ _ hs).mono ?_;rintro e w' ⟨rfl,rfl⟩))
     go_ret
     refine ⟨X8 ?_,bA _⟩
     rw [HN.o,hdg,hw]
     first
     | (simp;done)
     | (rw [Bool.eq_iff_iff];simp;omega)
   ·go_enter Tryz.func39,Tryz.ntmps39
    go_wp2_with (go_at_call 66;refine (idigit_any _ _).mono ?_;rintro e w' ⟨rfl,rfl⟩)
    go_ret
    exact ⟨X8 (by rw [HN.o,hdg];simp),Below.refl _ _⟩
theorem Tr.pkg_index (b:UInt8):Zw b=(Sc.nm b || !decide (Lib.indexByte [45,46,47] b < 0)):=by
 have h:∀ n,n < 256→Zw (UInt8.ofNat n)=(Sc.nm (UInt8.ofNat n) || !decide (Lib.indexByte [45,46,47] (UInt8.ofNat n) < 0)):=by decide +kernel
 have:=h b.toNat b.toNat_lt
 simpa using this
theorem pkgI_any (b:UInt8) (w:World):Calls Tryz.prog 96 #[.string ⟨#[45,46,47]⟩,.int .u8 b.toNat] w fun e w'=>e = .returned (.int .i64 (Lib.indexByte [45,46,47] b))∧w'=w:=by
 have h:=Tryz.strings_IndexByte ⟨#[45,46,47]⟩ b.toNat w
 rw [show ((b.toNat:Int)).toNat.toUInt8=b from by simp] at h
 exact h
set_option maxRecDepth 100000 in
set_option maxHeartbeats 1000000 in
theorem isPkg_any (s:ByteArray) (w:World) (hs:s.size≤1048576) :
  Calls Tryz.prog 70 #[.string s] w fun e w'=>e = .returned (.bool (ZW s))∧w'=w:=by
 have HP:=X1 (show ZW s=(Xn s.size 1 30 && Yy Zw s.data.toList) from rfl)
 go_enter Tryz.func70,Tryz.ntmps70
 go_wp2
 go_loop [6] (fun t=>∃ j:Nat,j≤s.size∧t = .int .i64 j∧Yy Zw s.data.toList=Yy Zw (s.data.toList.drop j)) (fun t=>s.size - (intOf t).toNat)
 case atStart=>exact ⟨0,Nat.zero_le _,rfl,by simp⟩
 case round =>
  obtain ⟨j,hj,rfl,he⟩:=hrel
  have HE:=X1 he
  clear he
  by_cases hlt:j < s.size
  ·have hd:=X1 (Sc.drop_cons s j hlt)
   have HS:=X1 (show Yy Zw s.data.toList=(Zw s[j] && Yy Zw (s.data.toList.drop (j+1))) by rw [HE.o,hd.o,ZL])
   have HB:=X1 (Tr.pkg_index s[j])
   have HI:=X1 (pkgI_any s[j])
   cases hn:Sc.nm s[j]
   ·generalize Lib.indexByte [45,46,47] s[j]=ix at *
    by_cases hx:ix < 0
    ·go_wp2_with (first | (go_at_call 95;refine (iname_any _ _).mono ?_;rintro e w' ⟨rfl,rfl⟩) | (go_at_call 96;refine (HI.o _).mono ?_;rintro e w' ⟨rfl,rfl⟩))
     go_ret
     exact ⟨X8 (by rw [HP.o,HS.o,HB.o,hn];simp [hx]),rfl⟩
    ·go_wp2_with (first | (go_at_call 95;refine (iname_any _ _).mono ?_;rintro e w' ⟨rfl,rfl⟩) | (go_at_call 96;refine (HI.o _).mono ?_;rintro e w' ⟨rfl,rfl⟩))
     go_round
     case rel=>exact ⟨j+1,by omega,by go_num,by rw [HS.o,HB.o,hn,decide_eq_false (by omega:¬ ix < 0)];rfl⟩
     case measure=>simp [intOf];omega
   ·go_wp2_with (first | (go_at_call 95;refine (iname_any _ _).mono ?_;rintro e w' ⟨rfl,rfl⟩))
    go_round
    case rel=>exact ⟨j+1,by omega,by go_num,by rw [HS.o,HB.o,hn];rfl⟩
    case measure=>simp [intOf];omega
  ·have HF:=X1 (show ZW s=Xn s.size 1 30 by
    rw [HP.o,HE.o,List.drop_of_length_le (i:=j) (by simp;omega)];simp [Yy])
   by_cases a1:1≤(s.size:Int)
   all_goals by_cases a2:(s.size:Int)≤30
   all_goals
    go_wp2
    go_ret
    exact ⟨X8 (by rw [HF.o];simp [Xn];try omega),rfl⟩
end Go.Proofs.YtimbaebigjjkaaaGreatDoor

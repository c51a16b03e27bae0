/- The library contracts that the walks call, laid over this dump. -/
import Derived.Test.YthbffcmfmjpncaaGreatDoorA0s
import Derived.Shelf.Strings.Builder1
import Derived.Shelf.Strings.Builder2
import Derived.Shelf.Strings.OnBuilder
import Derived.Shelf.Small.Bits
import Derived.Shelf.Small.Wraps
import Derived.Shelf.Utf8.RuneCount
import Derived.Shelf.Strconv.Itoa0
import Derived.Shelf.Strconv.Itoa1
import Derived.Shelf.LaysM
import Derived.Shelf.Strconv.Itoa2
import Derived.Shelf.Strconv.Itoa3
import Derived.Shelf.Strconv.Itoa4
import Derived.Shelf.Strconv.ParseIntEmpty
import Derived.Shelf.Strconv.Clone
import Derived.Shelf.Strconv.SyntaxError
import Derived.Shelf.LaysC
import Derived.Shelf.Strconv.ToError
import Derived.Shelf.Strconv.Lower
import Derived.Shelf.Strconv.ParseUint10
import Derived.Shelf.Strconv.ParseUint10Empty
import Derived.Shelf.Strconv.ParseUint10Any
import Derived.Shelf.Strconv.ParseInt10
import Derived.Shelf.Strconv.RangeError
import Derived.Shelf.Strconv.ToErrorRange
import Derived.Shelf.Strconv.ParseUintEmpty
import Derived.Shelf.Strconv.ParseUint10b64
import Derived.Shelf.Strconv.ParseUint10b32
import Derived.Shelf.Strconv.ParseUint10b16
import Derived.Shelf.Strconv.ParseUint10b8
import Derived.Shelf.Strconv.ParseUint10At
import Derived.Shelf.Strconv.ParseInt10At64
import Derived.Shelf.Strconv.ParseInt10At32
import Derived.Shelf.Strconv.ParseInt10At16
import Derived.Shelf.Strconv.ParseInt10At8
import Derived.Shelf.Strconv.ParseInt10All
import Derived.Shelf.Strconv.ParseIntPublic10
import Derived.Shelf.Strconv.ErrVarParseInt
import Derived.Shelf.Strings.Prefix
import Derived.Shelf.Unicode.Decode
import Derived.Shelf.Strings.RuneCount
import Derived.Shelf.Unicode.DecodeSlow
import Derived.Shelf.Unicode.DecodeAny
import Derived.Ground.Names2Prog
import Derived.Shelf.Slices.Clone
import Derived.Shelf.Slices.SearchI
import Derived.Ground.SlgnProg
import Derived.Shelf.SlicesE.Clone
import Derived.Test.YthbffcmfmjpncaaGreatDoorProg
import Derived.Shelf.Small.Strs
set_option linter.defProp false
set_option maxRecDepth 100000
namespace Go.Proofs
open _root_.Go.Proofs.Tryz
open Go.Shelf
def laysC174_ren:Go.Shelf.Ren:=⟨fun|174=>218|247=>238|245=>239|287=>246|279=>247|280=>248|281=>249|282=>250|321=>254|322=>255|316=>65|171=>20|205=>256|243=>40|246=>76|283=>115|284=>116|285=>117|286=>118|129=>166|317=>165|318=>167|319=>168|320=>169|337=>211|338=>212|n=>n,fun|9=>9|3=>3|2=>2|75=>324|85=>325|4=>4|167=>368|5=>5|53=>208|175=>369|46=>237|168=>371|37=>189|0=>0|210=>379|21=>21|127=>190|145=>383|143=>381|171=>207|173=>211|212=>285|51=>286|20=>20|213=>287|232=>358|233=>359|80=>335|n=>n,fun|15=>9|16=>10|17=>1|18=>7|19=>8|n=>n⟩
def laysC174:Go.Proofs.LaysC.n174 prog laysC174_ren:={
 mixed:=by kernel_rfl
 f129:=func166.trans (congrArg some (by kernel_rfl))
 f171:=func20.trans (congrArg some (by kernel_rfl))
 f174:=func218.trans (congrArg some (by kernel_rfl))
 f205:=func256.trans (congrArg some (by kernel_rfl))
 f243:=func40.trans (congrArg some (by kernel_rfl))
 f245:=func239.trans (congrArg some (by kernel_rfl))
 f246:=func76.trans (congrArg some (by kernel_rfl))
 f247:=func238.trans (congrArg some (by kernel_rfl))
 f279:=func247.trans (congrArg some (by kernel_rfl))
 f280:=func248.trans (congrArg some (by kernel_rfl))
 f281:=func249.trans (congrArg some (by kernel_rfl))
 f282:=func250.trans (congrArg some (by kernel_rfl))
 f283:=func115.trans (congrArg some (by kernel_rfl))
 f284:=func116.trans (congrArg some (by kernel_rfl))
 f285:=func117.trans (congrArg some (by kernel_rfl))
 f286:=func118.trans (congrArg some (by kernel_rfl))
 f287:=func246.trans (congrArg some (by kernel_rfl))
 f316:=func65.trans (congrArg some (by kernel_rfl))
 f317:=func165.trans (congrArg some (by kernel_rfl))
 f318:=func167.trans (congrArg some (by kernel_rfl))
 f319:=func168.trans (congrArg some (by kernel_rfl))
 f320:=func169.trans (congrArg some (by kernel_rfl))
 f321:=func254.trans (congrArg some (by kernel_rfl))
 f322:=func255.trans (congrArg some (by kernel_rfl))
 f337:=func211.trans (congrArg some (by kernel_rfl))
 f338:=func212.trans (congrArg some (by kernel_rfl))
 t0:=underlying0
 a0:=isAgg0
 z0:=sizeOf0
 v0:=zeroValue0
 t2:=underlying2
 a2:=isAgg2
 z2:=sizeOf2
 v2:=zeroValue2
 t3:=underlying3
 a3:=isAgg3
 z3:=sizeOf3
 v3:=zeroValue3
 t4:=underlying4
 a4:=isAgg4
 z4:=sizeOf4
 v4:=zeroValue4
 t5:=underlying5
 a5:=isAgg5
 z5:=sizeOf5
 v5:=zeroValue5
 t9:=underlying9
 a9:=isAgg9
 z9:=sizeOf9
 v9:=zeroValue9
 t20:=underlying20
 a20:=isAgg20
 z20:=sizeOf20
 v20:=zeroValue20
 t21:=underlying21
 a21:=isAgg21
 z21:=sizeOf21
 v21:=zeroValue21
 t37:=underlying189
 a37:=isAgg189
 z37:=sizeOf189
 v37:=zeroValue189
 t46:=underlying237
 a46:=isAgg237
 z46:=sizeOf237
 v46:=zeroValue237
 t51:=underlying286
 a51:=isAgg286
 z51:=sizeOf286
 v51:=zeroValue286
 t53:=underlying208
 a53:=isAgg208
 z53:=sizeOf208
 v53:=zeroValue208
 t75:=underlying324
 a75:=isAgg324
 z75:=sizeOf324
 v75:=zeroValue324
 t85:=underlying325
 a85:=isAgg325
 z85:=sizeOf325
 v85:=zeroValue325
 t127:=underlying190
 a127:=isAgg190
 z127:=sizeOf190
 v127:=zeroValue190
 t143:=underlying381
 a143:=isAgg381
 z143:=sizeOf381
 v143:=zeroValue381
 t145:=underlying383
 a145:=isAgg383
 z145:=sizeOf383
 v145:=zeroValue383
 t167:=underlying368
 a167:=isAgg368
 z167:=sizeOf368
 v167:=zeroValue368
 t168:=underlying371
 a168:=isAgg371
 z168:=sizeOf371
 v168:=zeroValue371
 t171:=underlying207
 a171:=isAgg207
 z171:=sizeOf207
 v171:=zeroValue207
 t173:=underlying211
 a173:=isAgg211
 z173:=sizeOf211
 v173:=zeroValue211
 t175:=underlying369
 a175:=isAgg369
 z175:=sizeOf369
 v175:=zeroValue369
 t210:=underlying379
 a210:=isAgg379
 z210:=sizeOf379
 v210:=zeroValue379
 t212:=underlying285
 a212:=isAgg285
 z212:=sizeOf285
 v212:=zeroValue285
 t213:=underlying287
 a213:=isAgg287
 z213:=sizeOf287
 t232:=underlying358
 a232:=isAgg358
 z232:=sizeOf358
 v232:=zeroValue358
 t233:=underlying359
 a233:=isAgg359
 z233:=sizeOf359
 v233:=zeroValue359
 g15:=by kernel_rfl
 g16:=by kernel_rfl
 g17:=by kernel_rfl
 g18:=by kernel_rfl
 g19:=by kernel_rfl
 t80:=underlying335
 a80:=isAgg335
 z80:=sizeOf335
 v80:=zeroValue335
 i0:=by kernel_rfl
 i2:=by kernel_rfl
 i3:=by kernel_rfl
 i4:=by kernel_rfl
 i5:=by kernel_rfl
 i9:=by kernel_rfl
 i20:=by kernel_rfl
 i21:=by kernel_rfl
 i37:=by kernel_rfl
 i46:=by kernel_rfl
 i51:=by kernel_rfl
 i53:=by kernel_rfl
 i75:=by kernel_rfl
 i80:=by kernel_rfl
 i85:=by kernel_rfl
 i127:=by kernel_rfl
 i143:=by kernel_rfl
 i145:=by kernel_rfl
 i167:=by kernel_rfl
 i168:=by kernel_rfl
 i171:=by kernel_rfl
 i173:=by kernel_rfl
 i175:=by kernel_rfl
 i210:=by kernel_rfl
 i212:=by kernel_rfl
 i232:=by kernel_rfl
 i233:=by kernel_rfl
 m15:=by kernel_rfl
 m16:=by kernel_rfl
 m17:=by kernel_rfl
 m18:=by kernel_rfl
 m19:=by kernel_rfl
 c0:=by kernel_rfl
 c2:=by kernel_rfl
 c3:=by kernel_rfl
 c4:=by kernel_rfl
 c5:=by kernel_rfl
 c9:=by kernel_rfl
 c20:=by kernel_rfl
 c21:=by kernel_rfl
 c37:=by kernel_rfl
 c46:=by kernel_rfl
 c51:=by kernel_rfl
 c53:=by kernel_rfl
 c75:=by kernel_rfl
 c80:=by kernel_rfl
 c85:=by kernel_rfl
 c127:=by kernel_rfl
 c143:=by kernel_rfl
 c145:=by kernel_rfl
 c167:=by kernel_rfl
 c168:=by kernel_rfl
 c171:=by kernel_rfl
 c173:=by kernel_rfl
 c175:=by kernel_rfl
 c210:=by kernel_rfl
 c212:=by kernel_rfl
 c213:=by kernel_rfl
 c232:=by kernel_rfl
 c233:=by kernel_rfl }
open Go.RowKit in
def strconv_ParseInt_10_at64_ok(s:ByteArray)(a:s.size<=9223372036854775806)(v:Int)(h:Lib.parseIntB 64 s.data.toList=.ok v)(w:World):
 Calls prog 218 #[.string s,.int .i64 10,.int .i64 64] w fun e b=>e=.returned (.tuple #[.int .i64 v,.nilIface])/\(b=w\/∃t,b=Lib.bytesWorld w 5 t):=Any.strconv_ParseInt_10_at64_ok laysC174 s a v h w
open Go.RowKit in
def strconv_ParseInt_10_at64_range(s:ByteArray)(b:s.size<=281474976710656)(h:Lib.parseIntB 64 s.data.toList=.range)(a:Value)(w:World)(g:w.cell? ⟨10,0,none⟩=some a)(c:a=.nilIface\/∃f i,a=.iface f i):
 Calls prog 218 #[.string s,.int .i64 10,.int .i64 64] w fun e d=>∃N,e=.returned (.tuple #[.int .i64 (Lib.intSat 64 s.data.toList),.iface 371 (.pointer (some ⟨N,0,none⟩))])/\w.heap.size<=N/\d.heap[N]?=some (.cells #[.string ⟨#[80,97,114,115,101,73,110,116]⟩,.string s,a] 379 (0,0))/\Below w.heap.size w d:=Any.strconv_ParseInt_10_at64_range laysC174 s b h a w g c
def lays197_ren:Go.Shelf.Ren:=⟨fun|197=>119|260=>170|n=>n,fun|9=>9|21=>21|3=>3|4=>4|5=>5|105=>213|119=>319|0=>0|46=>237|139=>322|138=>321|n=>n,fun|3=>4|4=>5|n=>n⟩
def lays197:Go.Proofs.Lays.n197 prog lays197_ren:={
 mixed:=by kernel_rfl
 f197:=func119.trans (congrArg some (by kernel_rfl))
 f260:=func170.trans (congrArg some (by kernel_rfl))
 t0:=underlying0
 a0:=isAgg0
 z0:=sizeOf0
 v0:=zeroValue0
 t3:=underlying3
 a3:=isAgg3
 z3:=sizeOf3
 v3:=zeroValue3
 t4:=underlying4
 a4:=isAgg4
 z4:=sizeOf4
 v4:=zeroValue4
 t5:=underlying5
 a5:=isAgg5
 z5:=sizeOf5
 v5:=zeroValue5
 t9:=underlying9
 a9:=isAgg9
 z9:=sizeOf9
 v9:=zeroValue9
 t21:=underlying21
 a21:=isAgg21
 z21:=sizeOf21
 v21:=zeroValue21
 t46:=underlying237
 a46:=isAgg237
 z46:=sizeOf237
 v46:=zeroValue237
 t105:=underlying213
 a105:=isAgg213
 z105:=sizeOf213
 v105:=zeroValue213
 t119:=underlying319
 a119:=isAgg319
 z119:=sizeOf319
 t138:=underlying321
 a138:=isAgg321
 z138:=sizeOf321
 v138:=zeroValue321
 t139:=underlying322
 a139:=isAgg322
 z139:=sizeOf322
 v139:=zeroValue322
 g3:=by kernel_rfl
 g4:=by kernel_rfl }
open Go.RowKit Go.Lib in
def utf8_DecodeRuneInString(s:ByteArray)(w:World)(b:Lib.Utf8Tabs 4 5 w):
 Calls prog 119 #[.string s] w fun e a=>e=.returned (.tuple #[.int .i32 (Lib.decodeGo s).1,.int .i64 (Lib.decodeGo s).2])/\Below w.heap.size w a:=Any.utf8_DecodeRuneInString lays197 s w b
end Go.Proofs
namespace Go.Proofs
open _root_.Go.Proofs.Tryz
def lays156_ren:Go.Shelf.Ren:=⟨fun|156=>187|165=>226|166=>227|169=>228|240=>241|241=>242|276=>251|277=>252|n=>n,fun|31=>37|9=>9|3=>3|4=>4|0=>0|20=>20|72=>331|76=>333|70=>329|37=>189|75=>324|127=>190|164=>374|5=>5|80=>335|n=>n,fun|n=>n⟩
def lays156:Go.Proofs.Lays.n156 prog lays156_ren:={
 mixed:=by kernel_rfl
 f156:=func187.trans (congrArg some (by kernel_rfl))
 f165:=func226.trans (congrArg some (by kernel_rfl))
 f166:=func227.trans (congrArg some (by kernel_rfl))
 f169:=func228.trans (congrArg some (by kernel_rfl))
 f240:=func241.trans (congrArg some (by kernel_rfl))
 f241:=func242.trans (congrArg some (by kernel_rfl))
 f276:=func251.trans (congrArg some (by kernel_rfl))
 f277:=func252.trans (congrArg some (by kernel_rfl))
 t0:=underlying0
 a0:=isAgg0
 z0:=sizeOf0
 v0:=zeroValue0
 t3:=underlying3
 a3:=isAgg3
 z3:=sizeOf3
 v3:=zeroValue3
 t4:=underlying4
 a4:=isAgg4
 z4:=sizeOf4
 v4:=zeroValue4
 t9:=underlying9
 a9:=isAgg9
 z9:=sizeOf9
 v9:=zeroValue9
 t20:=underlying20
 a20:=isAgg20
 z20:=sizeOf20
 v20:=zeroValue20
 t31:=underlying37
 a31:=isAgg37
 z31:=sizeOf37
 v31:=zeroValue37
 t37:=underlying189
 a37:=isAgg189
 z37:=sizeOf189
 v37:=zeroValue189
 t70:=underlying329
 a70:=isAgg329
 z70:=sizeOf329
 v70:=zeroValue329
 t72:=underlying331
 a72:=isAgg331
 z72:=sizeOf331
 v72:=zeroValue331
 t75:=underlying324
 a75:=isAgg324
 z75:=sizeOf324
 v75:=zeroValue324
 t76:=underlying333
 a76:=isAgg333
 z76:=sizeOf333
 v76:=zeroValue333
 t127:=underlying190
 a127:=isAgg190
 z127:=sizeOf190
 v127:=zeroValue190
 t164:=underlying374
 a164:=isAgg374
 z164:=sizeOf374
 v164:=zeroValue374 }
def Builder_Extra_156:Builder.Extra prog lays156_ren:={
 sizeBuilder:=by kernel_rfl
 liesBuilder:=by kernel_rfl
 t5:=underlying5
 a5:=isAgg5
 z5:=sizeOf5
 v5:=zeroValue5
 infoByte:=by kernel_rfl
 cellsByte:=by kernel_rfl
 sizeByte:=by kernel_rfl
 neB5:=by decide }
open Go.RowKit in
def strings_Join_none(a:Option Addr)(c:Nat)(b:ByteArray)(w:World):
 Calls prog 187 #[.slice a 0 c,.string b] w fun e d=>e=.returned (.string ⟨#[]⟩)/\d=w:=Any.strings_Join_none lays156 Builder_Extra_156 a c b w
open Go.RowKit in
def strings_Join(g o c:Nat)(xs:List ByteArray)(a:ByteArray)(w:World)(b:∀(j:Nat) x,xs[j]?=some x->w.cell? ⟨g,o+j,none⟩=some (.string x))(h:g<w.heap.size)(k:xs.length<=140737488355328)(d:xs.length<=c)(f:(Lib.join (xs.map (·.data.toList)) a.data.toList).length<=140737488355328):
 Calls prog 187 #[.slice (some ⟨g,o,none⟩) xs.length c,.string a] w fun e i=>e=.returned (.string ⟨(Lib.join (xs.map (·.data.toList)) a.data.toList).toArray⟩)/\Below w.heap.size w i:=Any.strings_Join lays156 Builder_Extra_156 g o c xs a w b h k d f
def lays106_ren:Go.Shelf.Ren:=⟨fun|106=>98|213=>146|265=>197|n=>n,fun|9=>9|3=>3|n=>n,fun|n=>n⟩
def lays106:Go.Proofs.Lays.n106 prog lays106_ren:={
 mixed:=by kernel_rfl
 f106:=func98.trans (congrArg some (by kernel_rfl))
 f213:=func146.trans (congrArg some (by kernel_rfl))
 f265:=func197.trans (congrArg some (by kernel_rfl))
 t3:=underlying3
 a3:=isAgg3
 z3:=sizeOf3
 v3:=zeroValue3
 t9:=underlying9
 a9:=isAgg9
 z9:=sizeOf9
 v9:=zeroValue9 }
open Go.RowKit in
def strings_Compare(a b:ByteArray)(w:World):
 Calls prog 98 #[.string a,.string b] w fun e c=>e=.returned (.int .i64 (Lib.compareBytes a.data.toList b.data.toList))/\c=w:=Any.strings_Compare lays106 a b w
def lays121_ren:Go.Shelf.Ren:=⟨fun|121=>142|214=>186|n=>n,fun|4=>4|9=>9|n=>n,fun|n=>n⟩
def lays121:Go.Proofs.Lays.n121 prog lays121_ren:={
 mixed:=by kernel_rfl
 f121:=func142.trans (congrArg some (by kernel_rfl))
 f214:=func186.trans (congrArg some (by kernel_rfl))
 t4:=underlying4
 a4:=isAgg4
 z4:=sizeOf4
 v4:=zeroValue4
 t9:=underlying9
 a9:=isAgg9
 z9:=sizeOf9
 v9:=zeroValue9 }
open Go.RowKit in
def strconv_FormatBool(b:Bool)(w:World):
 Calls prog 142 #[.bool b] w fun e a=>e=.returned (.string ⟨(Lib.formatBool b).toArray⟩)/\a=w:=Any.strconv_FormatBool lays121 b w
def lays195_ren:Go.Shelf.Ren:=⟨fun|195=>318|n=>n,fun|9=>9|3=>3|0=>0|4=>4|n=>n,fun|n=>n⟩
def lays195:Go.Proofs.Lays.n195 prog lays195_ren:={
 mixed:=by kernel_rfl
 f195:=func318.trans (congrArg some (by kernel_rfl))
 t0:=underlying0
 a0:=isAgg0
 z0:=sizeOf0
 v0:=zeroValue0
 t3:=underlying3
 a3:=isAgg3
 z3:=sizeOf3
 v3:=zeroValue3
 t4:=underlying4
 a4:=isAgg4
 z4:=sizeOf4
 v4:=zeroValue4
 t9:=underlying9
 a9:=isAgg9
 z9:=sizeOf9
 v9:=zeroValue9 }
open Go.RowKit in
def utf8_RuneCountInString(s:ByteArray)(w:World)(c:s.size<9223372036854775807):
 Calls prog 318 #[.string s] w fun e b=>e=.returned (.int .i64 (Lib.runeCount s))/\∃a,b=w.iter s a:=Any.utf8_RuneCountInString lays195 s w c
def laysM173_ren:Go.Shelf.Ren:=⟨fun|173=>141|246=>76|283=>115|284=>116|285=>117|286=>118|129=>166|317=>165|318=>167|319=>168|320=>169|337=>211|338=>212|n=>n,fun|2=>2|3=>3|9=>9|4=>4|171=>207|0=>0|53=>208|37=>189|5=>5|173=>211|212=>285|51=>286|20=>20|213=>287|46=>237|232=>358|233=>359|n=>n,fun|17=>1|18=>7|19=>8|n=>n⟩
def laysM173:Go.Proofs.LaysM.n173 prog laysM173_ren:={
 mixed:=by kernel_rfl
 f129:=func166.trans (congrArg some (by kernel_rfl))
 f173:=func141.trans (congrArg some (by kernel_rfl))
 f246:=func76.trans (congrArg some (by kernel_rfl))
 f283:=func115.trans (congrArg some (by kernel_rfl))
 f284:=func116.trans (congrArg some (by kernel_rfl))
 f285:=func117.trans (congrArg some (by kernel_rfl))
 f286:=func118.trans (congrArg some (by kernel_rfl))
 f317:=func165.trans (congrArg some (by kernel_rfl))
 f318:=func167.trans (congrArg some (by kernel_rfl))
 f319:=func168.trans (congrArg some (by kernel_rfl))
 f320:=func169.trans (congrArg some (by kernel_rfl))
 f337:=func211.trans (congrArg some (by kernel_rfl))
 f338:=func212.trans (congrArg some (by kernel_rfl))
 t0:=underlying0
 a0:=isAgg0
 z0:=sizeOf0
 v0:=zeroValue0
 t2:=underlying2
 a2:=isAgg2
 z2:=sizeOf2
 v2:=zeroValue2
 t3:=underlying3
 a3:=isAgg3
 z3:=sizeOf3
 v3:=zeroValue3
 t4:=underlying4
 a4:=isAgg4
 z4:=sizeOf4
 v4:=zeroValue4
 t5:=underlying5
 a5:=isAgg5
 z5:=sizeOf5
 v5:=zeroValue5
 t9:=underlying9
 a9:=isAgg9
 z9:=sizeOf9
 v9:=zeroValue9
 t20:=underlying20
 a20:=isAgg20
 z20:=sizeOf20
 v20:=zeroValue20
 t37:=underlying189
 a37:=isAgg189
 z37:=sizeOf189
 v37:=zeroValue189
 t46:=underlying237
 a46:=isAgg237
 z46:=sizeOf237
 v46:=zeroValue237
 t51:=underlying286
 a51:=isAgg286
 z51:=sizeOf286
 v51:=zeroValue286
 t53:=underlying208
 a53:=isAgg208
 z53:=sizeOf208
 v53:=zeroValue208
 t171:=underlying207
 a171:=isAgg207
 z171:=sizeOf207
 v171:=zeroValue207
 t173:=underlying211
 a173:=isAgg211
 z173:=sizeOf211
 v173:=zeroValue211
 t212:=underlying285
 a212:=isAgg285
 z212:=sizeOf285
 v212:=zeroValue285
 t213:=underlying287
 a213:=isAgg287
 z213:=sizeOf287
 t232:=underlying358
 a232:=isAgg358
 z232:=sizeOf358
 v232:=zeroValue358
 t233:=underlying359
 a233:=isAgg359
 z233:=sizeOf359
 v233:=zeroValue359
 g17:=by kernel_rfl
 g18:=by kernel_rfl
 g19:=by kernel_rfl
 i0:=by kernel_rfl
 i2:=by kernel_rfl
 i3:=by kernel_rfl
 i4:=by kernel_rfl
 i5:=by kernel_rfl
 i9:=by kernel_rfl
 i20:=by kernel_rfl
 i37:=by kernel_rfl
 i46:=by kernel_rfl
 i51:=by kernel_rfl
 i53:=by kernel_rfl
 i171:=by kernel_rfl
 i173:=by kernel_rfl
 i212:=by kernel_rfl
 i232:=by kernel_rfl
 i233:=by kernel_rfl
 m17:=by kernel_rfl
 m18:=by kernel_rfl
 m19:=by kernel_rfl }
open Go.RowKit Go.Sort Go.Lib in
def strconv_FormatInt_10(n:Int)(f: -9223372036854775808<=n)(d:n<=9223372036854775807)(w:World)(a:Lib.TabIs prog w "internal/strconv.uint64pow10" .u64 Lib.pow10Tab):
 Calls prog 141 #[.int .i64 n,.int .i64 10] w fun e b=>e=.returned (.string ⟨(Lib.itoa n).toArray⟩)/\∃k c,b=grow (w.drewN k) c:=Any.strconv_FormatInt_10 laysM173 n f d w a
end Go.Proofs
namespace Go.Proofs
open _root_.Go.Proofs.Tryz
def laysM316_ren:Go.Shelf.Ren:=⟨fun|316=>65|n=>n,fun|9=>9|3=>3|4=>4|37=>189|0=>0|127=>190|5=>5|n=>n,fun|n=>n⟩
def laysM316:Go.Proofs.LaysM.n316 prog laysM316_ren:={
 mixed:=by kernel_rfl
 f316:=func65.trans (congrArg some (by kernel_rfl))
 t0:=underlying0
 a0:=isAgg0
 z0:=sizeOf0
 v0:=zeroValue0
 t3:=underlying3
 a3:=isAgg3
 z3:=sizeOf3
 v3:=zeroValue3
 t4:=underlying4
 a4:=isAgg4
 z4:=sizeOf4
 v4:=zeroValue4
 t9:=underlying9
 a9:=isAgg9
 z9:=sizeOf9
 v9:=zeroValue9
 t37:=underlying189
 a37:=isAgg189
 z37:=sizeOf189
 v37:=zeroValue189
 t127:=underlying190
 a127:=isAgg190
 z127:=sizeOf190
 v127:=zeroValue190
 t5:=underlying5
 a5:=isAgg5
 z5:=sizeOf5
 v5:=zeroValue5
 i0:=by kernel_rfl
 i3:=by kernel_rfl
 i4:=by kernel_rfl
 i5:=by kernel_rfl
 i9:=by kernel_rfl
 i37:=by kernel_rfl
 i127:=by kernel_rfl }
open Go.RowKit in
def stringslite_Clone(s:ByteArray)(w:World)(a:s.size<=281474976710656):
 Calls prog 65 #[.string s] w fun e b=>e=.returned (.string s)/\Below w.heap.size w b:=Any.stringslite_Clone laysM316 s w a
end Go.Proofs
namespace Go.Proofs
open _root_.Go.Proofs.Tryz
def laysM171_ren:Go.Shelf.Ren:=⟨fun|171=>20|243=>40|246=>76|283=>115|284=>116|285=>117|286=>118|129=>166|317=>165|318=>167|319=>168|320=>169|337=>211|338=>212|n=>n,fun|3=>3|9=>9|2=>2|4=>4|171=>207|0=>0|53=>208|37=>189|5=>5|173=>211|212=>285|51=>286|20=>20|213=>287|46=>237|232=>358|233=>359|n=>n,fun|17=>1|18=>7|19=>8|n=>n⟩
def laysM171:Go.Proofs.LaysM.n171 prog laysM171_ren:={
 mixed:=by kernel_rfl
 f129:=func166.trans (congrArg some (by kernel_rfl))
 f171:=func20.trans (congrArg some (by kernel_rfl))
 f243:=func40.trans (congrArg some (by kernel_rfl))
 f246:=func76.trans (congrArg some (by kernel_rfl))
 f283:=func115.trans (congrArg some (by kernel_rfl))
 f284:=func116.trans (congrArg some (by kernel_rfl))
 f285:=func117.trans (congrArg some (by kernel_rfl))
 f286:=func118.trans (congrArg some (by kernel_rfl))
 f317:=func165.trans (congrArg some (by kernel_rfl))
 f318:=func167.trans (congrArg some (by kernel_rfl))
 f319:=func168.trans (congrArg some (by kernel_rfl))
 f320:=func169.trans (congrArg some (by kernel_rfl))
 f337:=func211.trans (congrArg some (by kernel_rfl))
 f338:=func212.trans (congrArg some (by kernel_rfl))
 t0:=underlying0
 a0:=isAgg0
 z0:=sizeOf0
 v0:=zeroValue0
 t2:=underlying2
 a2:=isAgg2
 z2:=sizeOf2
 v2:=zeroValue2
 t3:=underlying3
 a3:=isAgg3
 z3:=sizeOf3
 v3:=zeroValue3
 t4:=underlying4
 a4:=isAgg4
 z4:=sizeOf4
 v4:=zeroValue4
 t5:=underlying5
 a5:=isAgg5
 z5:=sizeOf5
 v5:=zeroValue5
 t9:=underlying9
 a9:=isAgg9
 z9:=sizeOf9
 v9:=zeroValue9
 t20:=underlying20
 a20:=isAgg20
 z20:=sizeOf20
 v20:=zeroValue20
 t37:=underlying189
 a37:=isAgg189
 z37:=sizeOf189
 v37:=zeroValue189
 t46:=underlying237
 a46:=isAgg237
 z46:=sizeOf237
 v46:=zeroValue237
 t51:=underlying286
 a51:=isAgg286
 z51:=sizeOf286
 v51:=zeroValue286
 t53:=underlying208
 a53:=isAgg208
 z53:=sizeOf208
 v53:=zeroValue208
 t171:=underlying207
 a171:=isAgg207
 z171:=sizeOf207
 v171:=zeroValue207
 t173:=underlying211
 a173:=isAgg211
 z173:=sizeOf211
 v173:=zeroValue211
 t212:=underlying285
 a212:=isAgg285
 z212:=sizeOf285
 v212:=zeroValue285
 t213:=underlying287
 a213:=isAgg287
 z213:=sizeOf287
 t232:=underlying358
 a232:=isAgg358
 z232:=sizeOf358
 v232:=zeroValue358
 t233:=underlying359
 a233:=isAgg359
 z233:=sizeOf359
 v233:=zeroValue359
 g17:=by kernel_rfl
 g18:=by kernel_rfl
 g19:=by kernel_rfl
 i0:=by kernel_rfl
 i2:=by kernel_rfl
 i3:=by kernel_rfl
 i4:=by kernel_rfl
 i5:=by kernel_rfl
 i9:=by kernel_rfl
 i20:=by kernel_rfl
 i37:=by kernel_rfl
 i46:=by kernel_rfl
 i51:=by kernel_rfl
 i53:=by kernel_rfl
 i171:=by kernel_rfl
 i173:=by kernel_rfl
 i212:=by kernel_rfl
 i232:=by kernel_rfl
 i233:=by kernel_rfl
 m17:=by kernel_rfl
 m18:=by kernel_rfl
 m19:=by kernel_rfl }
open Go.RowKit Go.Sort Go.Lib in
def strconv_Itoa(n:Int)(f: -9223372036854775808<=n)(d:n<=9223372036854775807)(w:World)(a:Lib.TabIs prog w "internal/strconv.uint64pow10" .u64 Lib.pow10Tab):
 Calls prog 20 #[.int .i64 n] w fun e b=>e=.returned (.string ⟨(Lib.itoa n).toArray⟩)/\∃k c,b=grow (w.drewN k) c:=Any.strconv_Itoa laysM171 n f d w a
end Go.Proofs

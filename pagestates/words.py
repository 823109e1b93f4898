"""What's said of a box."""

from pagestates.boxes import level_of
from pagestates.names import put_together
from pagestates.signs import QUOTE


def hint_said(scene, at):
    hint = scene.page.boxes[at].hint
    if hint == "" or scene.sources[at] == "hint":
        return ""
    return scene.inner_name(hint)


def text_besides(scene, at):
    if scene.rules[at].whole or scene.sources[at] == "text":
        return ""
    return scene.page.boxes[at].text


def quoted(text):
    return QUOTE + text + QUOTE if text != "" else ""


def led_by(word, text):
    return word + " " + quoted(text) if text != "" else ""


def marks_of(scene, at):
    box = scene.page.boxes[at]
    marks = ["off"] if box.off else []
    if box.kind == "check":
        marks.append("on" if scene.on[at] else "not on")
    return marks


def words_of(scene, at):
    level = level_of(scene.page.boxes[at])
    words = [scene.rules[at].role, str(level) if level > 0 else "", quoted(scene.names[at])]
    words.extend(marks_of(scene, at))
    words.append(led_by("hint", hint_said(scene, at)))
    words.append(led_by("text", text_besides(scene, at)))
    return put_together(words)

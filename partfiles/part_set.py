"""A set of named parts, and what it answers to the calls."""

from partfiles.faults import ContainerFault
from partfiles.limits import MOST_BYTES, MOST_PARTS
from partfiles.loading import loaded_parts
from partfiles.part_names import is_name
from partfiles.replies import DONE, NO_SUCH_PART, NOT_TAKEN, TOO_MANY_PARTS, told, told_fault
from partfiles.saving import container_bytes, part_bytes


class Part:

    def __init__(self, name, data):
        self.name = name
        self.data = data
        self.saved = None

    # Packing is the slow step and saves may be many: it is done once for a part, and not before a save.
    def saved_bytes(self):
        if self.saved is None:
            self.saved = part_bytes(self.name, self.data)
        return self.saved


class PartSet:

    def __init__(self):
        self.parts = {}

    def begin(self):
        self.parts = {}
        return [DONE]

    def put(self, name, data):
        if not is_name(name) or len(data) > MOST_BYTES:
            return [NOT_TAKEN]
        key = tuple(name)
        if key not in self.parts and len(self.parts) >= MOST_PARTS:
            return [TOO_MANY_PARTS]
        self.parts[key] = Part(key, data)
        return [DONE]

    def drop(self, name):
        key = tuple(name)
        if key not in self.parts:
            return [NO_SUCH_PART]
        self.parts.pop(key)
        return [DONE]

    def fetch(self, name):
        key = tuple(name)
        if key not in self.parts:
            return [NO_SUCH_PART]
        return told(self.parts[key].data)

    def names(self):
        answer = [len(self.parts)]
        for key in sorted(self.parts):
            answer.append(len(key))
            answer.extend(key)
        return answer

    def save(self):
        saved_parts = []
        for key in sorted(self.parts):
            saved_parts.append(self.parts[key].saved_bytes())
        return told(container_bytes(saved_parts))

    def load(self, data):
        try:
            loaded = loaded_parts(data)
        except ContainerFault as e:
            return told_fault(e.fault, e.place)
        self.parts = {}
        for part in loaded:
            key = tuple(part.name)
            self.parts[key] = Part(key, part.data)
        return [len(loaded)]

"""Pages for fingers, whole: texts become cells of raised points, and texts again."""

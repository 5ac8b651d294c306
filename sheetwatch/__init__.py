"""Sheetwatch: a watcher of logs whose answers come with sheets."""
